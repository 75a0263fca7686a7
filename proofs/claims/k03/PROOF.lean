import PyProof.Rows.All
import Wide.All
import OpenK.AllK
import Wide.FinOn
import Lean
import PyProof.EqAt
import PyProof.EqKinds
import PyProof.TupleCall
import PySem.Challenge.RW_sheetask_k03_whole_written_and_read
set_option Elab.async false
set_option linter.all false
set_option maxRecDepth 100000
namespace L2
open PySem PySem.Spec PyProof.Rows
abbrev Key := Sum Int Str
def keyIs : Key → Value → Bool
  | .inl k, v => Value.isInt k v
  | .inr x, v => Value.isStrOf x v
def keyH (w : World) : Key → Int
  | .inl k => hashInt k
  | .inr x => hashStr w x
theorem keyIs_shape : ∀ {k : Key} {v : Value}, keyIs k v = true → (∃ i t, k = Sum.inl i ∧ v = Value.int i t) ∨ (∃ x t, k = Sum.inr x ∧ v = Value.str x t)
  | .inl i, v, h => by
    obtain ⟨t, e⟩ := Value.isInt_shape (k := i) (v := v) h
    exact .inl ⟨i, t, rfl, e⟩
  | .inr x, v, h => by
    obtain ⟨t, e⟩ := Value.isStrOf_shape (x := x) (v := v) h
    exact .inr ⟨x, t, rfl, e⟩
theorem key_ll (a b : Int) : decide ((Sum.inl a : Key) = Sum.inl b) = (a == b) := by
  by_cases e : a = b
  · subst e; simp
  · have h : ¬ (Sum.inl a : Key) = Sum.inl b := fun q => e (Sum.inl.inj q)
    rw [decide_eq_false h]
    exact (beq_eq_false_iff_ne.mpr e).symm
theorem key_rr (a b : Str) : decide ((Sum.inr a : Key) = Sum.inr b) = decide (a = b) := by
  by_cases e : a = b
  · subst e; simp
  · have h : ¬ (Sum.inr a : Key) = Sum.inr b := fun q => e (Sum.inr.inj q)
    rw [decide_eq_false h, decide_eq_false e]
theorem key_lr (a : Int) (b : Str) : decide ((Sum.inl a : Key) = Sum.inr b) = false := decide_eq_false (fun q => nomatch q)
theorem key_rl (a : Str) (b : Int) : decide ((Sum.inr a : Key) = Sum.inl b) = false := decide_eq_false (fun q => nomatch q)
def mixKind (prog : Program) (w : World) : PySem.KeyKind prog w Key where
  is := keyIs
  hash := keyH w
  inj := fun v a b ha hb => by
    rcases keyIs_shape ha with ⟨i, t, rfl, rfl⟩ | ⟨x, t, rfl, rfl⟩
    · rcases keyIs_shape hb with ⟨j, u, rfl, e⟩ | ⟨y, u, rfl, e⟩
      · injection e with e1 _; rw [e1]
      · exact nomatch e
    · rcases keyIs_shape hb with ⟨j, u, rfl, e⟩ | ⟨y, u, rfl, e⟩
      · exact nomatch e
      · injection e with e1 _; rw [e1]
  byValue := fun k v h => by
    rcases keyIs_shape h with ⟨i, t, rfl, rfl⟩ | ⟨x, t, rfl, rfl⟩ <;> rfl
  pyHash := fun hv h => by
    rcases keyIs_shape hv with ⟨i, t, rfl, rfl⟩ | ⟨x, t, rfl, rfl⟩
    · exact wpAny_pyHash_int h
    · exact wpAny_pyHash_str h
  eqBool := fun hu hv h => by
    rcases keyIs_shape hu with ⟨i, t, rfl, rfl⟩ | ⟨x, t, rfl, rfl⟩
    · rcases keyIs_shape hv with ⟨j, u, rfl, rfl⟩ | ⟨y, u, rfl, rfl⟩
      · rw [key_ll] at h; exact wpAny_eqBool_int h
      · rw [key_lr] at h; exact SeqAt.EqAt.int_str i t y u _ _ _ _ h
    · rcases keyIs_shape hv with ⟨j, u, rfl, rfl⟩ | ⟨y, u, rfl, rfl⟩
      · rw [key_rl] at h; exact SeqAt.EqAt.str_int x t j u _ _ _ _ h
      · rw [key_rr] at h; exact wpAny_eqBool_str h
  «strs» := fun k x t v h => by
    rcases keyIs_shape h with ⟨i, u, rfl, e⟩ | ⟨y, u, rfl, e⟩
    · exact nomatch e
    · injection e with e1 _
      subst e1
      cases v <;> rfl
end L2
namespace L2
open PySem PySem.Spec PyProof.Rows
inductive V where
  | non | bl (b : Bool) | int (i : Int) | str (x : Str) | byt (b : Array UInt8) | flt (b : UInt64) | ref (a : Addr) | ty (n : String)
  deriving DecidableEq
def RelV : V → Value → Prop
  | .non, u => u = Value.none
  | .bl b, u => u = Value.bool b
  | .int i, u => ∃ t, u = Value.int i t
  | .str x, u => ∃ t, u = Value.str x t
  | .byt b, u => ∃ t, u = Value.bytes b t
  | .flt b, u => ∃ t, u = Value.float b t
  | .ref a, u => u = Value.ref a
  | .ty n, u => u = Value.type n
abbrev Vals : List V → List Value → Prop := Paired RelV
theorem Vals.length {xs : List V} {us : List Value} (r : Vals xs us) : xs.length = us.length := Paired.length r
theorem Vals.get : ∀ {xs : List V} {us : List Value} {i : Nat} {x : V}, Vals xs us → xs[i]? = some x → ∃ u, us[i]? = some u ∧ RelV x u
  | _, _, _, _, .nil, e => by simp at e
  | _, _, 0, _, .cons r _, e => by simp at e; subst e; exact ⟨_, rfl, r⟩
  | _, _, i + 1, x, .cons _ t, e => by
    obtain ⟨u, h1, h2⟩ := Vals.get (i := i) (x := x) t (by simpa using e)
    exact ⟨u, by simpa using h1, h2⟩
theorem Vals.set {x : V} {u : Value} (r : RelV x u) : ∀ {xs : List V} {us : List Value} (i : Nat), Vals xs us → Vals (xs.set i x) (us.set i u)
  | _, _, _, .nil => .nil
  | _, _, 0, .cons _ t => .cons r t
  | _, _, i + 1, .cons q t => .cons q (Vals.set r i t)
theorem Vals.append : ∀ {xs ys : List V} {us ws : List Value}, Vals xs us → Vals ys ws → Vals (xs ++ ys) (us ++ ws)
  | _, _, _, _, .nil, s => s
  | _, _, _, _, .cons r t, s => .cons r (Vals.append t s)
theorem Vals.take : ∀ {xs : List V} {us : List Value} (n : Nat), Vals xs us → Vals (xs.take n) (us.take n)
  | _, _, 0, _ => .nil
  | _, _, _ + 1, .nil => .nil
  | _, _, n + 1, .cons r t => .cons r (Vals.take n t)
theorem Vals.drop : ∀ {xs : List V} {us : List Value} (n : Nat), Vals xs us → Vals (xs.drop n) (us.drop n)
  | _, _, 0, r => r
  | _, _, _ + 1, .nil => .nil
  | _, _, n + 1, .cons _ t => Vals.drop n t
def RelO : Option V → Option Value → Prop
  | some v, some u => RelV v u
  | none, none => True
  | _, _ => False
def KV {κ : Type} : List (κ × V) → List (κ × Value) → Prop := Paired fun (p : κ × V) (q : κ × Value) => p.1 = q.1 ∧ RelV p.2 q.2
def kV : Key → V
  | .inl i => .int i
  | .inr x => .str x
inductive HO where
  | lst (xs : List V)
  | tup (xs : List V)
  | dK (kvs : List (Key × V)) | dT (kvs : List (List Key × V))
  | set (S : Int → Bool) (n : Nat)
  | ins (C dx : Addr) (fs : List (Str × V))
  | own (x : Addr)
  | xd (fs : List (Str × V))
  | met (f x : Addr)
  | rng (lo hi : Int)
  | frz (o : Obj) (u : HO)
  | tbl (ps : Array Value)
  | ext (φ : Heap → Prop)
abbrev Hp := Addr → Option HO
def upd (H : Hp) (a : Addr) (o : HO) : Hp := fun b => if b = a then some o else H b
theorem upd_same {H : Hp} {a : Addr} {o : HO} : upd H a o a = some o := by unfold upd; rw [if_pos rfl]
theorem upd_ne {H : Hp} {a b : Addr} {o : HO} (h : b ≠ a) : upd H a o b = H b := by unfold upd; rw [if_neg h]
theorem ne_of {H : Hp} {a b : Addr} {o u : HO} (h : H a = some o) (h' : H b = some u) (d : o ≠ u) : a ≠ b := by
  intro e; subst e; rw [h] at h'; exact d (Option.some.inj h')
theorem ne_of_none {H : Hp} {a b : Addr} {o : HO} (h : H a = some o) (h' : H b = none) : a ≠ b := by
  intro e; subst e; rw [h] at h'; cases h'
section
variable (P : Program) (w : World)
def ObjOk (H : Hp) (h : Heap) (a : Addr) : HO → Prop
  | .lst xs => xs.length ≤ sizeLine ∧ ∃ (its : List Value) (n : Nat), Vals xs its ∧ h.get? a = some { cls := .type "list", data := .seq its.toArray n }
  | .tup xs => xs.length ≤ sizeLine ∧ ∃ its : List Value, Vals xs its ∧ IsTup h a its.toArray
  | .dK kvs => kvs.length ≤ sizeLine ∧ (a == sysModules) = false ∧ ∃ vs, KV kvs vs ∧ h.DictOf (mixKind P w) a vs
  | .dT kvs => kvs.length ≤ sizeLine ∧ (a == sysModules) = false ∧ ∃ xs : List (List Key × Addr × Value),
      Paired (fun (p : List Key × V) (q : List Key × Addr × Value) => p.1 = q.1 ∧ H q.2.1 = some (.tup (p.1.map kV)) ∧ RelV p.2 q.2.2) kvs xs ∧
      ∃ o es ep, h.get? a = some o ∧ o.ExactDict ∧ o.data = .dict es ep ∧ es.toList = xs.map (entryOfKey (tupleKind (mixKind P w))) ∧ (xs.map (·.1)).Nodup
  | .set S n => h.SetOf (intKind P w) a S n
  | .ins C dx fs => H dx = some (.own a) ∧ fs.length ≤ 1000 ∧ dx ≠ a ∧ h.get? a = some (PySem.W.instObj C dx) ∧
      ∃ mA, h.Ns1 dx mA ∧ (∀ f, RelO (fs.lookup f) (mA f)) ∧ PySem.Within mA (fs.map (·.1))
  | .own _ => ∃ o, h.get? a = some o
  | .xd fs => ∃ mA, h.Ns1 a mA ∧ ∀ f, RelO (fs.lookup f) (mA f)
  | .rng lo hi => ∃ t u v, h.get? a = some { cls := .type "range", data := .fields #[.int lo t, .int hi u, .int 1 v] }
  | .frz o u => h.get? a = some o ∧ ObjOk H h a u
  | .tbl ps => h.get? a = some { cls := .none, data := .fields ps }
  | .met f x => h.get? a = some (PySem.W.methodObj (.ref f) (.ref x))
  | .ext φ => φ h ∧ (∃ o, h.get? a = some o) ∧ ∀ h1 h2 : Heap, φ h1 → (∀ o, h1.get? a = some o → h2.get? a = some o) → φ h2
def HOk (H : Hp) (h : Heap) : Prop := ∀ a o, H a = some o → ObjOk P w H h a o
end
section
variable {P : Program} {w : World} {H H' : Hp} {h h' : Heap} {a : Addr} {o : HO}
theorem ObjOk.lt (x : ObjOk P w H h a o) : a < h.objs.size := by
  cases o with
  | lst xs => obtain ⟨_, _, _, _, e⟩ := x; exact Heap.lt_size e
  | tup xs => obtain ⟨_, _, _, p⟩ := x; exact p.lt
  | dK kvs => obtain ⟨_, _, _, _, o, _, _, e, _⟩ := x; exact Heap.lt_size e
  | dT kvs => obtain ⟨_, _, _, _, o, _, _, e, _⟩ := x; exact Heap.lt_size e
  | set S n => obtain ⟨o, _, _, _, e, _⟩ := x; exact Heap.lt_size e
  | ins C dx fs => obtain ⟨_, _, _, e, _⟩ := x; exact Heap.lt_size e
  | own y => obtain ⟨_, e⟩ := x; exact Heap.lt_size e
  | xd fs => obtain ⟨_, ⟨_, _, _, e, _⟩, _⟩ := x; exact Heap.lt_size e
  | rng lo hi => obtain ⟨_, _, _, e⟩ := x; exact Heap.lt_size e
  | frz ob u => obtain ⟨e, _⟩ := x; exact Heap.lt_size e
  | tbl ps => exact Heap.lt_size (show h.get? a = some _ from x)
  | met f y => exact Heap.lt_size (show h.get? a = some _ from x)
  | ext φ => obtain ⟨_, ⟨_, e⟩, _⟩ := x; exact Heap.lt_size e
theorem Paired.mapP {α β : Type} {F G : α → β → Prop} : ∀ {l₁ : List α} {l₂ : List β}, Paired F l₁ l₂ → (∀ a b, F a b → G a b) → Paired G l₁ l₂
  | _, _, .nil, _ => .nil
  | _, _, .cons r t, f => .cons (f _ _ r) (Paired.mapP t f)
theorem ObjOk.stay (x : ObjOk P w H h a o) (k : ∀ b u, (b = a ∨ H b = some (.own a)) → h.get? b = some u → h'.get? b = some u)
    (ho : ∀ b, H b = some (.own a) → H' b = some (.own a)) (ht : ∀ b xs, H b = some (.tup xs) → H' b = some (.tup xs)) : ObjOk P w H' h' a o := by
  induction o with
  | lst xs => obtain ⟨z, its, n, r, e⟩ := x; exact ⟨z, its, n, r, k _ _ (.inl rfl) e⟩
  | tup xs => obtain ⟨z, its, r, ob, e, c⟩ := x; exact ⟨z, its, r, ob, k _ _ (.inl rfl) e, c⟩
  | dK kvs => obtain ⟨z, y, vs, r, ob, es, ep, e, c⟩ := x; exact ⟨z, y, vs, r, ob, es, ep, k _ _ (.inl rfl) e, c⟩
  | dT kvs =>
    obtain ⟨z, y, xs, r, ob, es, ep, e, c⟩ := x
    exact ⟨z, y, xs, Paired.mapP r fun p q z => ⟨z.1, ht _ _ z.2.1, z.2.2⟩, ob, es, ep, k _ _ (.inl rfl) e, c⟩
  | set S n => obtain ⟨ob, es, ep, t, e, c⟩ := x; exact ⟨ob, es, ep, t, k _ _ (.inl rfl) e, c⟩
  | ins C dx fs =>
    obtain ⟨d, z, ne, e, mA, ⟨od, es, ep, e2, c⟩, r⟩ := x
    exact ⟨ho _ d, z, ne, k _ _ (.inl rfl) e, mA, ⟨od, es, ep, k _ _ (.inr d) e2, c⟩, r⟩
  | own y => obtain ⟨ob, e⟩ := x; exact ⟨ob, k _ _ (.inl rfl) e⟩
  | xd fs => obtain ⟨mA, ⟨od, es, ep, e, c⟩, r⟩ := x; exact ⟨mA, ⟨od, es, ep, k _ _ (.inl rfl) e, c⟩, r⟩
  | rng lo hi => obtain ⟨t, u, v, e⟩ := x; exact ⟨t, u, v, k _ _ (.inl rfl) e⟩
  | frz ob u ih => obtain ⟨e, q⟩ := x; exact ⟨k _ _ (.inl rfl) e, ih q⟩
  | tbl ps =>
    have e : h.get? a = some { cls := .none, data := .fields ps } := x
    show h'.get? a = some { cls := .none, data := .fields ps }
    exact k a _ (.inl rfl) e
  | met f y =>
    have e : h.get? a = some (PySem.W.methodObj (.ref f) (.ref y)) := x
    show h'.get? a = some (PySem.W.methodObj (.ref f) (.ref y))
    exact k a _ (.inl rfl) e
  | ext φ => obtain ⟨p, ⟨o, e⟩, st⟩ := x; exact ⟨st _ _ p fun o q => k _ _ (.inl rfl) q, ⟨o, k _ _ (.inl rfl) e⟩, st⟩
theorem HOk.lt (x : HOk P w H h) (e : H a = some o) : a < h.objs.size := (x a o e).lt
theorem HOk.fresh (x : HOk P w H h) (e : h.objs.size ≤ a) : H a = none := by
  cases q : H a with
  | none => rfl
  | some u => exact absurd (Nat.lt_of_lt_of_le (x.lt q) e) (Nat.lt_irrefl _)
theorem HOk.kept (x : HOk P w H h) (k : ∀ b u, h.get? b = some u → h'.get? b = some u) : HOk P w H h' := fun a o e =>
  (x a o e).stay (fun b u _ q => k b u q) (fun _ q => q) fun _ _ q => q
theorem HOk.laid (x : HOk P w H h) (k : ∀ b u, h.get? b = some u → h'.get? b = some u) (hp : h.objs.size ≤ a) (new : ObjOk P w (upd H a o) h' a o) : HOk P w (upd H a o) h' := fun b u e => by
  have hn := x.fresh hp
  by_cases hb : b = a
  · subst hb; rw [upd_same] at e; cases e; exact new
  · rw [upd_ne hb] at e
    exact (x b u e).stay (fun c v _ q => k c v q) (fun c q => by rw [upd_ne (ne_of_none q hn)]; exact q) fun c xs q => by rw [upd_ne (ne_of_none q hn)]; exact q
end
def Rd (H : Hp) (a : Addr) (u : HO) : Prop := H a = some u ∨ ∃ o, H a = some (.frz o u)
theorem Rd.ok {P : Program} {w : World} {H : Hp} {h : Heap} {a : Addr} {u : HO} (r : Rd H a u) (x : HOk P w H h) : ObjOk P w H h a u := by
  rcases r with r | ⟨o, r⟩
  · exact x a u r
  · obtain ⟨_, q⟩ := x a _ r
    exact q
def Mut : Option HO → Prop
  | some (.lst _) => True
  | some (.dK _) => True
  | some (.dT _) => True
  | some (.set _ _) => True
  | some (.ins _ _ _) => True
  | some (.ext _) => True
  | _ => False
section
variable {P : Program} {w : World} {H : Hp} {h h' : Heap} {x e : Addr} {o' : HO}
theorem HOk.write (ok : HOk P w H h) (mu : Mut (H x)) (he : e = x ∨ H e = some (.own x)) (k : ∀ b u, b ≠ e → h.get? b = some u → h'.get? b = some u) (heo : ∃ u, h'.get? e = some u)
    (new : ObjOk P w (upd H x o') h' x o') : HOk P w (upd H x o') h' := fun b u q => by
  have nown : ∀ c y, H c = some (.own y) → c ≠ x := fun c y r z => by subst z; rw [r] at mu; exact mu
  have ntup : ∀ c xs, H c = some (.tup xs) → c ≠ x := fun c xs r z => by subst z; rw [r] at mu; exact mu
  by_cases hb : b = x
  · subst hb; rw [upd_same] at q; cases q; exact new
  · rw [upd_ne hb] at q
    by_cases hbe : b = e
    · have q' : H b = some (.own x) := by
        rcases he with z | z
        · exact absurd (hbe.trans z) hb
        · rw [hbe]; exact z
      rw [q] at q'; cases q'
      obtain ⟨v, hv⟩ := heo
      exact ⟨v, by rw [hbe]; exact hv⟩
    · refine (ok b u q).stay (fun c v hc r => k c v ?_ r) (fun c r => by rw [upd_ne (nown c b r)]; exact r) fun c xs r => by rw [upd_ne (ntup c xs r)]; exact r
      rcases hc with rfl | hc
      · exact hbe
      · rintro rfl
        rcases he with z | z
        · exact nown c b hc z
        · rw [hc] at z; cases z; exact hb rfl
end
structure Un (fs ex : List Addr) (H H' : Hp) (h h' : Heap) : Prop where
  keep : ∀ b o, h.get? b = some o → H b = none → b ∉ fs → b ∉ ex → h'.get? b = some o
  slot : ∀ b o, h.get? b = some o → H b = none → b ∈ fs → b ∉ ex → ∃ sl, h'.get? b = some { o with slots := sl }
  free : ∀ b o, h.get? b = some o → H b = none → b ∉ ex → H' b = none
  there : ∀ b o, h.get? b = some o → b ∉ ex → ∃ o', h'.get? b = some o'
  tups : ∀ b xs, H b = some (.tup xs) → H' b = some (.tup xs)
  frzs : ∀ b o u, H b = some (.frz o u) → H' b = some (.frz o u)
  tbls : ∀ b ps, H b = some (.tbl ps) → ∃ more, H' b = some (.tbl (ps ++ more))
section
variable {fs fs' ex ex' : List Addr} {H H1 H2 : Hp} {h h1 h2 h' : Heap} {a x e : Addr} {o : HO}
theorem Un.any (u : Un fs ex H H1 h h1) {b : Addr} {ob : Obj} (q : h.get? b = some ob) (n : H b = none) (hx : b ∉ ex) : ∃ sl, h1.get? b = some { ob with slots := sl } := by
  by_cases hb : b ∈ fs
  · exact u.slot b ob q n hb hx
  · exact ⟨ob.slots, u.keep b ob q n hb hx⟩
theorem Un.kept (k : ∀ b u, h.get? b = some u → h'.get? b = some u) : Un fs ex H H h h' :=
  ⟨fun b ob q _ _ _ => k b ob q, fun b ob q _ _ _ => ⟨ob.slots, k b ob q⟩, fun _ _ _ n _ => n, fun b ob q _ => ⟨ob, k b ob q⟩, fun _ _ q => q, fun _ _ _ q => q, fun _ ps q => ⟨#[], by rw [q]; simp⟩⟩
theorem Un.refl : Un fs ex H H h h := Un.kept fun _ _ q => q
theorem Un.laid (k : ∀ b u, h.get? b = some u → h'.get? b = some u) (hp : h.objs.size ≤ a) (hn : H a = none) : Un fs ex H (upd H a o) h h' where
  keep := fun b u q _ _ _ => k b u q
  slot := fun b u q _ _ _ => ⟨u.slots, k b u q⟩
  free := fun b u q n _ => by rw [upd_ne (Nat.ne_of_lt (Nat.lt_of_lt_of_le (Heap.lt_size q) hp))]; exact n
  there := fun b u q _ => ⟨u, k b u q⟩
  tups := fun b xs q => by rw [upd_ne (ne_of_none q hn)]; exact q
  frzs := fun b u xs q => by rw [upd_ne (ne_of_none q hn)]; exact q
  tbls := fun b ps q => ⟨#[], by rw [upd_ne (ne_of_none q hn), q]; simp⟩
theorem Un.write (mu : Mut (H x)) (he : e = x ∨ H e = some (.own x)) (k : ∀ b u, b ≠ e → h.get? b = some u → h'.get? b = some u) (heo : ∃ u, h'.get? e = some u) : Un fs ex H (upd H x o) h h' := by
  have hx : ∀ b, H b = none → b ≠ x := fun b n z => by subst z; rw [n] at mu; exact mu
  have hb : ∀ b, H b = none → b ≠ e := fun b n z => by
    subst z
    rcases he with r | r
    · exact hx b n r
    · rw [n] at r; cases r
  have hm : ∀ b u, H b = some u → ¬ Mut (some u) → b ≠ x := fun b u q nm z => by subst z; rw [q] at mu; exact nm mu
  refine ⟨fun b u q n _ _ => k b u (hb b n) q, fun b u q n _ _ => ⟨u.slots, k b u (hb b n) q⟩, fun b u q n _ => by rw [upd_ne (hx b n)]; exact n, fun b u q _ => ?_,
    fun b xs q => by rw [upd_ne (hm b _ q fun z => z)]; exact q, fun b u xs q => by rw [upd_ne (hm b _ q fun z => z)]; exact q, fun b ps q => ⟨#[], by rw [upd_ne (hm b _ q fun z => z), q]; simp⟩⟩
  by_cases hbe : b = e
  · subst hbe; exact heo
  · exact ⟨u, k b u hbe q⟩
end
def trk (h : Heap) (H : Hp) : List Addr := (List.range h.objs.size).filter fun a => (H a).isSome
def hidT (h : Heap) (H : Hp) : Heap := PySem.W.hideAll h (trk h H)
theorem hidT_size (h : Heap) (H : Hp) : (hidT h H).objs.size = h.objs.size := PySem.W.hideAll_size _ _
theorem hidT_get {h : Heap} {H : Hp} {b : Addr} {o : Obj} (e : h.get? b = some o) (n : H b = none) : (hidT h H).get? b = some o :=
  PySem.W.hideAll_get _ e fun hm => by
    have q : (H b).isSome = true := (List.mem_filter.mp hm).2
    rw [n] at q; simp at q
theorem of_hidT {h : Heap} {H : Hp} {b : Addr} {o : Obj} (e : (hidT h H).get? b = some o) : h.get? b = some o ∧ H b = none := by
  have e' : h.get? b = some o := PySem.W.of_hideAll (trk h H) e
  refine ⟨e', ?_⟩
  cases q : H b with
  | none => rfl
  | some x =>
    have hm : b ∈ trk h H := List.mem_filter.mpr ⟨List.mem_range.mpr (Heap.lt_size e'), by simp [q]⟩
    have z : (hidT h H).get? b = none := PySem.W.hideAll_none (trk h H) hm
    rw [z] at e; cases e
end L2
namespace L2
open PySem PySem.Spec PyProof.Rows
structure Mod (K : PySem.W.Frag) (mg : Str → Option Value) (base : Heap) : Prop where
  kin : K.In base
  glob : base.Ns mainGlobals mg
  blt : ∃ mb, base.Ns builtinsNs mb ∧ ∀ x : Str, x ≠ "__name__" → mb x = bootBuiltins x
  nolimit : base.NoLimit
structure Cx where
  prog : Program
  w : World
  K : PySem.W.Frag
  mg : Str → Option Value
  base : Heap
  A : Around
  N : List Str
  s₀ : Shared
  H₀ : Hp
  env : Env
  outer : List Env
  stack : List Env
  ex : List Addr
  fn : Str → Bool
  calm : Bool
  pn : List (Addr × Obj)
  xe : Value → Shared → Prop
def frs (l : List Env) : List Addr := l.filterMap (·.frame)
abbrev Cx.fs (X : Cx) : List Addr := frs X.outer
def Vis (sc : Scope) (x : Str) : Prop := sc.names.lookup x = some .local ∨ sc.names.lookup x = some .cell ∨ sc.names.lookup x = some .free
def Loc (sc : Scope) (x : Str) : Prop := sc.names.lookup x = some .local ∨ sc.names.lookup x = some .cell
def Look (env : Env) (h : Heap) (m : Str → Option Value) (x : Str) (u : Value) : Prop :=
  (env.kindOf x = some .local ∧ m x = some u) ∨ ((env.kindOf x = some .cell ∨ env.kindOf x = some .free) ∧ ∃ c, env.cells.lookup x = some c ∧ h.IsCell c (some u))
structure Cx.Ok (X : Cx) : Prop where
  mod : Mod X.K X.mg X.base
  kind : X.env.scope.kind = .function
  glob : X.env.globals = mainGlobals
  blt : X.env.builtins = builtinsNs
  above : X.s₀.heap.objs.size ≤ X.env.locals
  inj : ∀ x y c, X.env.cells.lookup x = some c → X.env.cells.lookup y = some c → x = y
  has : ∀ x, (X.env.kindOf x = some .cell ∨ X.env.kindOf x = some .free) → ∃ c, X.env.cells.lookup x = some c
  cab : ∀ x c, X.fn x = true → X.env.cells.lookup x = some c → X.s₀.heap.objs.size ≤ c
  hd : X.calm = true → X.A.handled = none
  frames : X.A.frames = some X.stack
  stk : X.stack = X.outer ∨ (X.stack = X.env :: X.outer ∧ X.env.frame = some X.env.locals)
  exf : ∀ b ∈ X.ex, b ≠ X.env.locals ∧ ∀ x c, X.env.cells.lookup x = some c → c ≠ b
  bs : ∀ b o, X.base.get? b = some o → X.s₀.heap.get? b = some o ∧ X.H₀ b = none
  bsz : X.base.objs.size ≤ X.s₀.heap.objs.size
  noex : ∀ b o, X.base.get? b = some o → b ∉ X.ex
  exfs : ∀ b ∈ X.ex, b ∉ X.fs
  funs : X.s₀.heap.FunFrames X.base X.outer
  frf : ∀ b ∈ X.fs, X.H₀ b = none
structure Inv (X : Cx) (pins : List (Addr × Obj)) (σ : List (Option V)) (H : Hp) (s : Shared) : Prop where
  ok : X.Ok
  os : s.os = X.s₀.os
  bare : AllBare s.gens
  base : Un X.fs X.ex X.H₀ H X.s₀.heap s.heap
  loc : ∃ m, s.heap.Ns X.env.locals m ∧ ∀ (i : Nat) (x : Str) (v : V), X.N[i]? = some x → σ[i]? = some (some v) → Vis X.env.scope x → ∃ u, RelV v u ∧ Look X.env s.heap m x u
  cell : ∀ x c, X.env.cells.lookup x = some c → ∃ v, s.heap.IsCell c v
  free : H X.env.locals = none
  freeC : ∀ x c, X.env.cells.lookup x = some c → H c = none
  pin : ∀ p ∈ X.pn ++ pins, s.heap.get? p.1 = some p.2 ∧ H p.1 = none ∧ p.1 ≠ X.env.locals ∧ p.1 ∉ X.fs ∧ ∀ v, p.2.data ≠ .cell v
  hok : HOk X.prog X.w H s.heap
  len : σ.length = X.N.length
section
variable {X : Cx} {pins : List (Addr × Obj)} {σ : List (Option V)} {H H' : Hp} {s : Shared} {h' : Heap}
theorem Cx.Ok.nofr (ok : X.Ok) {b : Addr} {o : Obj} (e : X.base.get? b = some o) : b ∉ X.fs := fun hb => by
  have := (ok.funs.mem hb).1
  rw [e] at this; cases this
theorem Inv.bs (I : Inv X pins σ H s) : ∀ b o, X.base.get? b = some o → s.heap.get? b = some o ∧ H b = none := fun b o e =>
  ⟨I.base.keep b o (I.ok.bs b o e).1 (I.ok.bs b o e).2 (I.ok.nofr e) (I.ok.noex b o e), I.base.free b o (I.ok.bs b o e).1 (I.ok.bs b o e).2 (I.ok.noex b o e)⟩
theorem Inv.bk (I : Inv X pins σ H s) : ∀ b o, X.base.get? b = some o → s.heap.get? b = some o := fun b o e => (I.bs b o e).1
theorem Inv.mod (I : Inv X pins σ H s) : Mod X.K X.mg X.base := I.ok.mod
theorem Inv.kIn (I : Inv X pins σ H s) : X.K.In s.heap := I.ok.mod.kin.keeps I.bk
theorem Inv.lt (I : Inv X pins σ H s) : X.env.locals < s.heap.objs.size := let ⟨_, hn, _⟩ := I.loc; hn.lt
theorem Inv.sz (I : Inv X pins σ H s) : X.s₀.heap.objs.size ≤ s.heap.objs.size := Nat.le_trans I.ok.above (Nat.le_of_lt I.lt)
theorem Inv.nofs (I : Inv X pins σ H s) {a : Addr} (h : s.heap.objs.size ≤ a) : a ∉ X.fs := fun hb => by
  obtain ⟨_, o, ho, _⟩ := I.ok.funs.mem hb
  exact absurd (Nat.lt_of_lt_of_le (Heap.lt_size ho) (Nat.le_trans I.sz h)) (Nat.lt_irrefl _)
theorem Inv.cne (I : Inv X pins σ H s) : ∀ x c, X.env.cells.lookup x = some c → c ≠ X.env.locals := fun x c e z => by
  obtain ⟨v, o, ho, hd⟩ := I.cell x c e
  obtain ⟨m, ⟨o', es, ep, ho', hd', _⟩, _⟩ := I.loc
  rw [z, ho'] at ho; cases ho; rw [hd'] at hd; cases hd
theorem Inv.funs (I : Inv X pins σ H s) : s.heap.FunFrames X.base X.outer := by
  have all : ∀ (l : List Env), (∀ b ∈ frs l, b ∈ X.fs) → X.s₀.heap.FunFrames X.base l → s.heap.FunFrames X.base l := by
    intro l
    induction l with
    | nil => intro _ _; trivial
    | cons env r ih =>
      intro hs hl
      obtain ⟨hk, ⟨L, o, hf, hn, ho, hd⟩, hr⟩ := hl
      have hL : L ∈ X.fs := hs L (by unfold frs; rw [List.filterMap_cons, hf]; exact List.mem_cons_self)
      obtain ⟨sl, e⟩ := I.base.slot L o ho (I.ok.frf L hL) hL fun z => I.ok.exfs L z hL
      exact ⟨hk, ⟨L, _, hf, hn, e, hd⟩, ih (fun b hb => hs b (by unfold frs; rw [List.filterMap_cons, hf]; exact List.mem_cons_of_mem _ hb)) hr⟩
  exact all X.outer (fun _ hb => hb) I.ok.funs
theorem Inv.stack (I : Inv X pins σ H s) : s.heap.FunFrames X.base X.stack := by
  rcases I.ok.stk with e | ⟨e, hf⟩
  · rw [e]; exact I.funs
  · rw [e]
    obtain ⟨m, hn, _⟩ := I.loc
    refine .cons (by rw [I.ok.kind]; decide) hf hn ?_ I.funs
    exact Heap.get?_none_of_le (Nat.le_trans I.ok.bsz I.ok.above)
theorem Inv.stkSub (I : Inv X pins σ H s) : ∀ b ∈ frs X.stack, b ∈ X.env.locals :: X.fs := fun b hb => by
  rcases I.ok.stk with e | ⟨e, hf⟩
  · rw [e] at hb; exact List.mem_cons_of_mem _ hb
  · rw [e] at hb
    unfold frs at hb
    rw [List.filterMap_cons, hf] at hb
    exact hb
theorem Inv.stkFree (I : Inv X pins σ H s) : ∀ b ∈ frs X.stack, H b = none := fun b hb => by
  rcases List.mem_cons.mp (I.stkSub b hb) with e | hb
  · rw [e]; exact I.free
  · obtain ⟨_, o, ho, _⟩ := I.ok.funs.mem hb
    exact I.base.free b o ho (I.ok.frf b hb) fun z => I.ok.exfs b z hb
theorem Inv.step {g' : Array GenState} {t' : Nat} {d' : Drawn} {ch : List Addr} (I : Inv X pins σ H s)
    (hch : ∀ b ∈ ch, (b ∈ X.ex ∨ X.s₀.heap.objs.size ≤ b) ∧ b ≠ X.env.locals ∧ (∀ x c, X.env.cells.lookup x = some c → c ≠ b) ∧ ∀ p ∈ X.pn ++ pins, p.1 ≠ b)
    (keep : ∀ b o, b ≠ X.env.locals → b ∉ X.fs → b ∉ ch → s.heap.get? b = some o → H b = none → h'.get? b = some o)
    (slot : ∀ b o, b ≠ X.env.locals → b ∈ X.fs → b ∉ ch → s.heap.get? b = some o → H b = none → ∃ sl, h'.get? b = some { o with slots := sl }) (free : ∀ b o, b ∉ ch → s.heap.get? b = some o → H b = none → H' b = none)
    (there : ∀ b o, b ∉ ch → s.heap.get? b = some o → ∃ o', h'.get? b = some o')
    (tups : ∀ b xs, H b = some (.tup xs) → H' b = some (.tup xs)) (frzs : ∀ b o u, H b = some (.frz o u) → H' b = some (.frz o u)) (tbls : ∀ b ps, H b = some (.tbl ps) → ∃ more, H' b = some (.tbl (ps ++ more)))
    (ns : ∀ m, s.heap.Ns X.env.locals m → h'.Ns X.env.locals m) (hok : HOk X.prog X.w H' h') (hg : AllBare g') :
    Inv X pins σ H' { s with heap := h', gens := g', drawn := d', toks := t' } := by
  have neL : ∀ b o, X.s₀.heap.get? b = some o → b ≠ X.env.locals := fun b o e => Nat.ne_of_lt (Nat.lt_of_lt_of_le (Heap.lt_size e) I.ok.above)
  have neC : ∀ b o, X.s₀.heap.get? b = some o → b ∉ X.ex → b ∉ ch := fun b o e hx hb => by
    rcases (hch b hb).1 with z | z
    · exact hx z
    · exact absurd (Nat.lt_of_lt_of_le (Heap.lt_size e) z) (Nat.lt_irrefl _)
  have cellK : ∀ x c, X.env.cells.lookup x = some c → ∀ v, s.heap.IsCell c v → h'.IsCell c v := fun x c e v ⟨o, ho, hd⟩ => by
    have nch : c ∉ ch := fun z => (hch c z).2.2.1 x c e rfl
    by_cases hc : c ∈ X.fs
    · obtain ⟨sl, q⟩ := slot c o (I.cne x c e) hc nch ho (I.freeC x c e)
      exact ⟨_, q, hd⟩
    · exact ⟨o, keep c o (I.cne x c e) hc nch ho (I.freeC x c e), hd⟩
  refine ⟨I.ok, I.os, hg, ⟨fun b o e n hb hx => ?_, fun b o e n hb hx => ?_, fun b o e n hx => ?_, fun b o e hx => ?_, fun b xs e => tups b xs (I.base.tups b xs e), fun b o xs e => frzs b o xs (I.base.frzs b o xs e), fun b ps e => ?_⟩, ?_, fun x c e => ?_, ?_, fun x c e => ?_, fun p hp => ?_, hok, I.len⟩
  · exact keep b o (neL b o e) hb (neC b o e hx) (I.base.keep b o e n hb hx) (I.base.free b o e n hx)
  · obtain ⟨sl, e1⟩ := I.base.slot b o e n hb hx
    obtain ⟨sl', e2⟩ := slot b _ (neL b o e) hb (neC b o e hx) e1 (I.base.free b o e n hx)
    exact ⟨sl', e2⟩
  · obtain ⟨o', e1⟩ := I.base.there b o e hx
    exact free b o' (neC b o e hx) e1 (I.base.free b o e n hx)
  · obtain ⟨o', e1⟩ := I.base.there b o e hx
    exact there b o' (neC b o e hx) e1
  · obtain ⟨m1, e1⟩ := I.base.tbls b ps e
    obtain ⟨m2, e2⟩ := tbls b _ e1
    exact ⟨m1 ++ m2, by rw [e2, Array.append_assoc]⟩
  · obtain ⟨m, hn, hl⟩ := I.loc
    refine ⟨m, ns m hn, fun i x v e1 e2 e3 => ?_⟩
    obtain ⟨u, r, l⟩ := hl i x v e1 e2 e3
    refine ⟨u, r, ?_⟩
    rcases l with l | ⟨k, c, e, z⟩
    · exact .inl l
    · exact .inr ⟨k, c, e, cellK x c e _ z⟩
  · obtain ⟨v, z⟩ := I.cell x c e
    exact ⟨v, cellK x c e v z⟩
  · obtain ⟨m, ⟨o, _, _, ho, _⟩, _⟩ := I.loc
    exact free _ o (fun z => (hch _ z).2.1 rfl) ho I.free
  · obtain ⟨v, o, ho, hd⟩ := I.cell x c e
    exact free c o (fun z => (hch c z).2.2.1 x c e rfl) ho (I.freeC x c e)
  · obtain ⟨e, n, ne, nf, d⟩ := I.pin p hp
    have nch : p.1 ∉ ch := fun z => (hch p.1 z).2.2.2 p hp rfl
    exact ⟨keep p.1 p.2 ne nf nch e n, free p.1 p.2 nch e n, ne, nf, d⟩
theorem Inv.un {t' : Nat} (I : Inv X pins σ H s) (u : Un X.fs [] H H' s.heap h') (hok : HOk X.prog X.w H' h') : Inv X pins σ H' { s with heap := h', toks := t' } := by
  obtain ⟨m, ⟨o, es, ep, ho, r⟩, _⟩ := id I.loc
  obtain ⟨sl, hL⟩ := u.any ho I.free (by simp)
  exact I.step (g' := s.gens) (d' := s.drawn) (ch := []) (fun _ z => nomatch z) (fun b o _ hb _ e n => u.keep b o e n hb (by simp)) (fun b o _ hb _ e n => u.slot b o e n hb (by simp)) (fun b o _ e n => u.free b o e n (by simp)) (fun b o _ e => u.there b o e (by simp)) u.tups u.frzs u.tbls (fun m' hm => by
    obtain ⟨o', es', ep', ho', r'⟩ := hm
    rw [ho] at ho'; cases ho'
    exact ⟨_, es', ep', hL, r'⟩) hok I.bare
theorem Inv.call {g' : Array GenState} {t' : Nat} {d' : Drawn} {ch : List Addr} (I : Inv X pins σ H s) (u : Un (frs X.stack) ch H H' s.heap h') (hok : HOk X.prog X.w H' h') (hg : AllBare g')
    (hch : ∀ b ∈ ch, (b ∈ X.ex ∨ X.s₀.heap.objs.size ≤ b) ∧ b ≠ X.env.locals ∧ (∀ x c, X.env.cells.lookup x = some c → c ≠ b) ∧ ∀ p ∈ X.pn ++ pins, p.1 ≠ b) :
    Inv X pins σ H' { s with heap := h', gens := g', drawn := d', toks := t' } := by
  obtain ⟨m, ⟨o, es, ep, ho, r⟩, _⟩ := id I.loc
  obtain ⟨sl, hL⟩ := u.any ho I.free fun z => (hch _ z).2.1 rfl
  exact I.step (ch := ch) hch (fun b o hL hb hc e n => u.keep b o e n (fun z => (List.mem_cons.mp (I.stkSub b z)).elim hL hb) hc) (fun b o _ _ hc e n => u.any e n hc) (fun b o hc e n => u.free b o e n hc) (fun b o hc e => u.there b o e hc) u.tups u.frzs u.tbls (fun m' hm => by
    obtain ⟨o', es', ep', ho', r'⟩ := hm
    rw [ho] at ho'; cases ho'
    exact ⟨_, es', ep', hL, r'⟩) hok hg
theorem Inv.turned {t' : Nat} {it : Addr} (I : Inv X pins σ H s) (k : ∀ b o, b ≠ it → s.heap.get? b = some o → h'.get? b = some o) (hn : H it = none) (hL : it ≠ X.env.locals)
    (h1 : it ∈ X.ex ∨ X.s₀.heap.objs.size ≤ it) (h2 : ∀ x c, X.env.cells.lookup x = some c → c ≠ it) (h3 : ∀ p ∈ X.pn ++ pins, p.1 ≠ it) : Inv X pins σ H { s with heap := h', toks := t' } := by
  have nit : ∀ b u, H b = some u → b ≠ it := fun b u e z => by rw [z, hn] at e; cases e
  refine I.step (g' := s.gens) (d' := s.drawn) (ch := [it]) (fun b hb => ?_) (fun b o _ _ hc e _ => k b o (fun z => hc (by simp [z])) e) (fun b o _ _ hc e _ => ⟨o.slots, k b o (fun z => hc (by simp [z])) e⟩) (fun _ _ _ _ n => n)
    (fun b o hc e => ⟨o, k b o (fun z => hc (by simp [z])) e⟩) (fun _ _ e => e) (fun _ _ _ e => e) (fun b ps e => ⟨#[], by rw [e]; simp⟩) (fun m hm => ?_) (fun b u e => ?_) I.bare
  · have e : b = it := by simpa using hb
    subst e
    exact ⟨h1, hL, h2, h3⟩
  · obtain ⟨o, es, ep, ho, r⟩ := hm
    exact ⟨o, es, ep, k _ o (Ne.symm hL) ho, r⟩
  · refine (I.hok b u e).stay (fun c v hc q => k c v ?_ q) (fun _ q => q) fun _ _ q => q
    rcases hc with z | z
    · rw [z]; exact nit b u e
    · exact nit c _ z
theorem Inv.tok (I : Inv X pins σ H s) (t : Nat) : Inv X pins σ H { s with toks := t } := I.un (h' := s.heap) (t' := t) Un.refl I.hok
theorem Inv.kept {t' : Nat} (I : Inv X pins σ H s) (k : ∀ b u, s.heap.get? b = some u → h'.get? b = some u) : Inv X pins σ H { s with heap := h', toks := t' } := I.un (Un.kept k) (I.hok.kept k)
theorem Inv.laid {a : Addr} {o : HO} {t' : Nat} (I : Inv X pins σ H s) (k : ∀ b u, s.heap.get? b = some u → h'.get? b = some u) (hp : s.heap.objs.size ≤ a) (new : ObjOk X.prog X.w (upd H a o) h' a o) :
    Inv X pins σ (upd H a o) { s with heap := h', toks := t' } := I.un (Un.laid k hp (I.hok.fresh hp)) (I.hok.laid k hp new)
theorem Inv.write {x e : Addr} {o : HO} {t' : Nat} (I : Inv X pins σ H s) (mu : Mut (H x)) (he : e = x ∨ H e = some (.own x)) (k : ∀ b u, b ≠ e → s.heap.get? b = some u → h'.get? b = some u) (heo : ∃ u, h'.get? e = some u)
    (new : ObjOk X.prog X.w (upd H x o) h' x o) : Inv X pins σ (upd H x o) { s with heap := h', toks := t' } := I.un (Un.write mu he k heo) (I.hok.write mu he k heo new)
theorem Inv.pins_of {pins' : List (Addr × Obj)} (I : Inv X pins σ H s) (h : ∀ p ∈ pins', s.heap.get? p.1 = some p.2 ∧ H p.1 = none ∧ p.1 ≠ X.env.locals ∧ p.1 ∉ X.fs ∧ ∀ v, p.2.data ≠ .cell v) : Inv X pins' σ H s :=
  ⟨I.ok, I.os, I.bare, I.base, I.loc, I.cell, I.free, I.freeC, fun p hp => (List.mem_append.mp hp).elim (fun z => I.pin p (List.mem_append_left _ z)) (h p), I.hok, I.len⟩
theorem nodup_ix {N : List Str} (hN : N.Nodup) {i j : Nat} {x : Str} (a : N[i]? = some x) (b : N[j]? = some x) : i = j := by
  obtain ⟨h1, e1⟩ := List.getElem?_eq_some_iff.mp a
  obtain ⟨h2, e2⟩ := List.getElem?_eq_some_iff.mp b
  exact (List.getElem_inj hN).mp (e1.trans e2.symm)
theorem store_ok2 {M : Model} {A : Around} {E : Value → Shared → Prop} {i : Nat} {x : Str} {v : V} {u : Value} {Q : Unit → Shared → Prop} (I : Inv X pins σ H s) (hN : X.N.Nodup) (hi : X.N[i]? = some x) (hx : Loc X.env.scope x) (r : RelV v u)
    (h : ∀ s', Inv X pins (σ.set i (some v)) H s' → (∃ a, Heap.SameBut a s.heap s'.heap ∧ (a = X.env.locals ∨ X.env.cells.lookup x = some a)) → Q () s') (hf : X.fn x = true ∨ X.env.scope.names.lookup x = some .local := by first | exact .inl rfl | exact .inr rfl | assumption) : wpAny M A (storeName X.env x u) Q E s := by
  obtain ⟨m, hn, hl⟩ := id I.loc
  have hcls : (X.env.scope.kind == .class || (X.env.scope.kind == .module && X.env.locals != X.env.globals)) = false := by rw [I.ok.kind]; rfl
  have hiσ : i < σ.length := by rw [I.len]; exact (List.getElem?_eq_some_iff.mp hi).1
  have cne := I.cne
  have tracked : ∀ {a : Addr} {h' : Heap}, (∃ o, s.heap.get? a = some o ∧ H a = none) → Heap.SameBut a s.heap h' → HOk X.prog X.w H h' := fun {a h'} ha hs b ob e => by
    obtain ⟨_, _, hfree⟩ := ha
    refine (I.hok b ob e).stay (fun c w' hc q => (hs.2 c ?_).trans q) (fun _ q => q) fun _ _ q => q
    rintro rfl
    rcases hc with rfl | hc
    · rw [hfree] at e; cases e
    · rw [hfree] at hc; cases hc
  rcases hx with hk | hk
  · refine wpAny_storeName_local hk hn (fun h' hn' hs => ?_) hcls
    obtain ⟨oL, _, _, hoL, _⟩ := id hn
    refine h _ ⟨I.ok, I.os, I.bare, ⟨fun b o e n hb hx => ?_, fun b o e n hb hx => ?_, I.base.free, fun b o e hx => ?_, I.base.tups, I.base.frzs, I.base.tbls⟩, ⟨_, hn', fun j y v' e1 e2 e3 => ?_⟩, fun y c e => ?_, I.free, I.freeC, fun p hp => ?_, tracked ⟨oL, hoL, I.free⟩ hs, by simpa using I.len⟩ ⟨_, hs, .inl rfl⟩
    · exact (hs.2 b (Nat.ne_of_lt (Nat.lt_of_lt_of_le (Heap.lt_size e) I.ok.above))).trans (I.base.keep b o e n hb hx)
    · obtain ⟨sl, e1⟩ := I.base.slot b o e n hb hx
      exact ⟨sl, (hs.2 b (Nat.ne_of_lt (Nat.lt_of_lt_of_le (Heap.lt_size e) I.ok.above))).trans e1⟩
    · obtain ⟨o', e1⟩ := I.base.there b o e hx
      exact ⟨o', (hs.2 b (Nat.ne_of_lt (Nat.lt_of_lt_of_le (Heap.lt_size e) I.ok.above))).trans e1⟩
    · by_cases hj : j = i
      · subst hj
        rw [hi] at e1; cases e1
        rw [List.getElem?_set_self hiσ] at e2
        cases e2
        exact ⟨u, r, .inl ⟨hk, by simp⟩⟩
      · rw [List.getElem?_set_ne (Ne.symm hj)] at e2
        obtain ⟨u', r', q⟩ := hl j y v' e1 e2 e3
        refine ⟨u', r', ?_⟩
        rcases q with ⟨k, e⟩ | ⟨k, c, e, z⟩
        · refine .inl ⟨k, ?_⟩
          have : y ≠ x := fun e => hj (nodup_ix hN e1 (e ▸ hi))
          simp [this, e]
        · exact .inr ⟨k, c, e, z.sameBut hs (cne y c e)⟩
    · obtain ⟨w', z⟩ := I.cell y c e
      exact ⟨w', z.sameBut hs (cne y c e)⟩
    · obtain ⟨e, n, ne, nf, d⟩ := I.pin p hp
      exact ⟨(hs.2 p.1 ne).trans e, n, ne, nf, d⟩
  · have hfn : X.fn x = true := by
      rcases hf with z | z
      · exact z
      · rw [z] at hk; cases hk
    obtain ⟨c, hc⟩ := I.ok.has x (.inl hk)
    obtain ⟨w', z⟩ := I.cell x c hc
    refine wpAny_storeName_cell I.ok.kind hk hc z (fun h' hc' hs => ?_)
    obtain ⟨oc, hoc, hocd⟩ := id z
    refine h { s with heap := h' } ⟨I.ok, I.os, I.bare, ⟨fun b o e n hb hx => ?_, fun b o e n hb hx => ?_, I.base.free, fun b o e hx => ?_, I.base.tups, I.base.frzs, I.base.tbls⟩, ⟨m, hn.sameBut hs (Ne.symm (cne x c hc)), fun j y v' e1 e2 e3 => ?_⟩, fun y c' e => ?_, I.free, I.freeC, fun p hp => ?_, tracked ⟨oc, hoc, I.freeC x c hc⟩ hs, by simpa using I.len⟩ ⟨c, hs, .inr hc⟩
    · exact (hs.2 b (Nat.ne_of_lt (Nat.lt_of_lt_of_le (Heap.lt_size e) (I.ok.cab x c hfn hc)))).trans (I.base.keep b o e n hb hx)
    · obtain ⟨sl, e1⟩ := I.base.slot b o e n hb hx
      exact ⟨sl, (hs.2 b (Nat.ne_of_lt (Nat.lt_of_lt_of_le (Heap.lt_size e) (I.ok.cab x c hfn hc)))).trans e1⟩
    · obtain ⟨o', e1⟩ := I.base.there b o e hx
      exact ⟨o', (hs.2 b (Nat.ne_of_lt (Nat.lt_of_lt_of_le (Heap.lt_size e) (I.ok.cab x c hfn hc)))).trans e1⟩
    · by_cases hj : j = i
      · subst hj
        rw [hi] at e1; cases e1
        rw [List.getElem?_set_self hiσ] at e2
        cases e2
        exact ⟨u, r, .inr ⟨.inl hk, c, hc, hc'⟩⟩
      · rw [List.getElem?_set_ne (Ne.symm hj)] at e2
        obtain ⟨u', r', q⟩ := hl j y v' e1 e2 e3
        refine ⟨u', r', ?_⟩
        rcases q with q | ⟨k, c', e, z'⟩
        · exact .inl q
        · refine .inr ⟨k, c', e, z'.sameBut hs ?_⟩
          rintro rfl
          exact hj (nodup_ix hN e1 (I.ok.inj _ _ _ e hc ▸ hi))
    · by_cases hcc : c' = c
      · subst hcc; exact ⟨_, hc'⟩
      · obtain ⟨w2, z2⟩ := I.cell y c' e
        exact ⟨w2, z2.sameBut hs hcc⟩
    · obtain ⟨e, n, ne, nf, d⟩ := I.pin p hp
      refine ⟨(hs.2 p.1 ?_).trans e, n, ne, nf, d⟩
      intro q
      rw [q, hoc] at e
      have q' : oc = p.2 := Option.some.inj e
      exact d w' (by rw [← q']; exact hocd)
theorem store_ok {M : Model} {A : Around} {E : Value → Shared → Prop} {i : Nat} {x : Str} {v : V} {u : Value} {Q : Unit → Shared → Prop} (I : Inv X pins σ H s) (hN : X.N.Nodup) (hi : X.N[i]? = some x) (hx : Loc X.env.scope x) (r : RelV v u)
    (h : ∀ s', Inv X pins (σ.set i (some v)) H s' → Q () s') (hf : X.fn x = true ∨ X.env.scope.names.lookup x = some .local := by first | exact .inl rfl | exact .inr rfl | assumption) : wpAny M A (storeName X.env x u) Q E s :=
  store_ok2 I hN hi hx r (fun s' I' _ => h s' I') hf
theorem Inv.call' {s' : Shared} {ch : List Addr} (I : Inv X pins σ H s) (ho : s'.os = s.os) (u : Un (frs X.stack) ch H H' s.heap s'.heap) (hok : HOk X.prog X.w H' s'.heap) (hg : AllBare s'.gens)
    (hch : ∀ b ∈ ch, (b ∈ X.ex ∨ X.s₀.heap.objs.size ≤ b) ∧ b ≠ X.env.locals ∧ (∀ x c, X.env.cells.lookup x = some c → c ≠ b) ∧ ∀ p ∈ X.pn ++ pins, p.1 ≠ b) : Inv X pins σ H' s' := by
  obtain ⟨h', g', d', t', o'⟩ := s'
  have e : o' = s.os := ho
  subst e
  exact I.call (g' := g') (t' := t') (d' := d') u hok hg hch
end
abbrev XK := Value → Option Addr → Hp → Prop
abbrev St := List (Option V)
abbrev VK := V → Hp → Prop
abbrev TE := St → Hp → VK → Prop
abbrev TT := St → Hp → (Bool → Hp → Prop) → Prop
abbrev TA := St → Hp → (List V → Hp → Prop) → Prop
structure Ends where
  nx : St → Hp → Prop
  rt : VK
  bk : St → Hp → Prop := fun _ _ => False
  ct : St → Hp → Prop := fun _ _ => False
abbrev TS := Ends → St → Hp → Prop
def EP (X : Cx) (pins : List (Addr × Obj)) (σ : St) (Q : VK) (u : Value) (s' : Shared) : Prop := ∃ v H', Inv X pins σ H' s' ∧ RelV v u ∧ Q v H'
def TP (X : Cx) (pins : List (Addr × Obj)) (σ : St) (Q : Bool → Hp → Prop) (b : Bool) (s' : Shared) : Prop := ∃ H', Inv X pins σ H' s' ∧ Q b H'
def AP (X : Cx) (pins : List (Addr × Obj)) (σ : St) (Q : List V → Hp → Prop) (us : List Value) (s' : Shared) : Prop := ∃ vs H', Inv X pins σ H' s' ∧ Vals vs us ∧ Q vs H'
def SP (X : Cx) (pins : List (Addr × Obj)) (D : Ends) (f : Flow) (s' : Shared) : Prop :=
  match f with
  | .next => ∃ σ' H', Inv X pins σ' H' s' ∧ D.nx σ' H'
  | .brk => ∃ σ' H', Inv X pins σ' H' s' ∧ D.bk σ' H'
  | .cont => ∃ σ' H', Inv X pins σ' H' s' ∧ D.ct σ' H'
  | .ret u => ∃ v σ' H', Inv X pins σ' H' s' ∧ RelV v u ∧ D.rt v H'
def PE (X : Cx) (e : Expr) (t : TE) : Prop :=
  ∀ (pins : List (Addr × Obj)) (s : Shared) (σ : St) (H : Hp) (Q : VK), Inv X pins σ H s → t σ H Q → wpAny (model X.prog X.w) X.A (eval e X.env) (EP X pins σ Q) X.xe s
def PT (X : Cx) (e : Expr) (t : TT) : Prop :=
  ∀ (pins : List (Addr × Obj)) (s : Shared) (σ : St) (H : Hp) (Q : Bool → Hp → Prop), Inv X pins σ H s → t σ H Q → wpAny (model X.prog X.w) X.A (isTrue e X.env (eval e X.env)) (TP X pins σ Q) X.xe s
def PW (X : Cx) (e : Expr) (t : TT) : Prop :=
  ∀ (whole : Sem Value) (pins : List (Addr × Obj)) (s : Shared) (σ : St) (H : Hp) (Q : Bool → Hp → Prop), Inv X pins σ H s → t σ H Q → wpAny (model X.prog X.w) X.A (isTrue e X.env whole) (TP X pins σ Q) X.xe s
theorem PW.pt {X : Cx} {e : Expr} {t : TT} (h : PW X e t) : PT X e t := h _
def PA (X : Cx) (es : List Expr) (t : TA) : Prop :=
  ∀ (pos : Pos) (pins : List (Addr × Obj)) (s : Shared) (σ : St) (H : Hp) (Q : List V → Hp → Prop), Inv X pins σ H s → t σ H Q → wpAny (model X.prog X.w) X.A (spliced (backTo pos (starEach es X.env))) (AP X pins σ Q) X.xe s
def PS (X : Cx) (st : Stmt) (t : TS) : Prop :=
  ∀ (pins : List (Addr × Obj)) (s : Shared) (σ : St) (H : Hp) (D : Ends), Inv X pins σ H s → t D σ H → wpAny (model X.prog X.w) X.A (exec st X.env) (SP X pins D) X.xe s
def PSs (X : Cx) (st : List Stmt) (t : TS) : Prop :=
  ∀ (pins : List (Addr × Obj)) (s : Shared) (σ : St) (H : Hp) (D : Ends), Inv X pins σ H s → t D σ H → wpAny (model X.prog X.w) X.A (execs st X.env) (SP X pins D) X.xe s
theorem thn {α : Type} {t : Sem α} {Q Q' : α → Shared → Prop} {M : Model} {A : Around} {E : Value → Shared → Prop} {s : Shared} (h : wpAny M A t Q E s) (hQ : ∀ a s, Q a s → Q' a s) : wpAny M A t Q' E s := wpAny_mono h hQ fun _ _ x => x
end L2
namespace L2
open PySem PySem.Spec PyProof.Rows
section
variable {X : Cx}
def tVar (i : Nat) : TE := fun σ H Q => ∃ v, σ[i]? = some (some v) ∧ Q v H
def tC (v : V) : TE := fun _ H Q => Q v H
theorem pe_var {i : Nat} {x : Str} {pos : Pos} (hN : X.N[i]? = some x) (hv : Vis X.env.scope x) (hd : (x == ("__debug__" : Str)) = false := by decide) (hcd : (x == ("__classdict__" : Str)) = false := by decide) : PE X (.Name x pos) (tVar i) := by
  intro pins s σ H Q I h
  obtain ⟨v, e, h⟩ := h
  obtain ⟨m, hn, hl⟩ := I.loc
  obtain ⟨u, r, l⟩ := hl i x v hN e hv
  have fin : EP X pins σ Q u s := ⟨v, H, I, r, h⟩
  rcases l with ⟨hk, hm⟩ | ⟨hk, c, hc, hcell⟩
  · exact wpAny_Name (wpAny_loadName_local I.ok.kind hk hn hm fin) hd
  · rcases hk with hk | hk
    · exact wpAny_Name (wpAny_loadName_cell I.ok.kind hk hc hcell fin) hd
    · exact wpAny_Name (wpAny_loadName_free I.ok.kind hk hc hcell fin hcd) hd
theorem pe_int {i j pos} : PE X (.Constant (.int i) j pos) (tC (.int i)) := fun _ _ _ H _ I h => wpAny_Constant_int ⟨.int i, H, I.tok _, ⟨_, rfl⟩, h⟩
theorem pe_bl {b j pos} : PE X (.Constant (.bool b) j pos) (tC (.bl b)) := fun _ _ _ H _ I h => Constant_bool ⟨.bl b, H, I, rfl, h⟩
theorem pe_str {x j pos} : PE X (.Constant (.str x) j pos) (tC (.str x)) := fun _ _ _ H _ I h => Calls.Constant_str ⟨.str x, H, I.tok _, ⟨_, rfl⟩, h⟩
def Gl (X : Cx) (x : Str) : Prop := X.env.kindOf x = some .globalImplicit
theorem ld_glob {E : Value → Shared → Prop} {pins : List (Addr × Obj)} {s : Shared} {σ : St} {H : Hp} {x : Str} {u : Value} {pos : Pos} {Q : Value → Shared → Prop} (I : Inv X pins σ H s) (hg : Gl X x) (hm : X.mg x = some u) (h : Q u s)
    (hd : (x == ("__debug__" : Str)) = false := by decide) : wpAny (model X.prog X.w) X.A (eval (.Name x pos) X.env) Q E s :=
  Calls.Name_function_global I.ok.kind hg (Calls.loadGlobal_global (by rw [I.ok.glob]; exact I.mod.glob.keeps I.bk) hm h) hd
theorem ld_blt {E : Value → Shared → Prop} {pins : List (Addr × Obj)} {s : Shared} {σ : St} {H : Hp} {x : Str} {u : Value} {pos : Pos} {Q : Value → Shared → Prop} (I : Inv X pins σ H s) (hg : Gl X x) (hm : X.mg x = none) (hv : bootBuiltins x = some u) (h : Q u s)
    (hn : x ≠ "__name__" := by decide) (hd : (x == ("__debug__" : Str)) = false := by decide) : wpAny (model X.prog X.w) X.A (eval (.Name x pos) X.env) Q E s := by
  obtain ⟨mb, h1, h2⟩ := I.mod.blt
  exact Calls.Name_function_global I.ok.kind hg (Calls.loadGlobal_builtin (by rw [I.ok.glob]; exact I.mod.glob.keeps I.bk) hm (by rw [I.ok.blt]; exact h1.keeps I.bk) ((h2 x hn).trans hv) h) hd
theorem pe_glob {x : Str} {v : V} {u : Value} {pos : Pos} (hg : Gl X x) (hm : X.mg x = some u) (r : RelV v u) (hd : (x == ("__debug__" : Str)) = false := by decide) : PE X (.Name x pos) (tC v) :=
  fun _ _ _ H _ I h => ld_glob I hg hm ⟨v, H, I, r, h⟩ hd
theorem pe_bltn {x : Str} {v : V} {u : Value} {pos : Pos} (hg : Gl X x) (hm : X.mg x = none) (hv : bootBuiltins x = some u) (r : RelV v u) (hn : x ≠ "__name__" := by decide) (hd : (x == ("__debug__" : Str)) = false := by decide) : PE X (.Name x pos) (tC v) :=
  fun _ _ _ H _ I h => ld_blt I hg hm hv ⟨v, H, I, r, h⟩ hn hd
variable {a b : Expr} {ta tb : TE} {pos : Pos}
def tB (t : TE) : TT := fun σ H Q => t σ H fun x H1 => ∃ c, x = .bl c ∧ Q c H1
theorem pt_val {e : Expr} {t : TE} (h : PE X e t) (he : ∀ whole, isTrue e X.env whole = (do let v ← whole; standAt e.pos; holding [v] (truthy v)) := by intro _; rfl) : PT X e (tB t) := by
  intro pins s σ H Q I hw
  refine isTrue_plain (thn (h pins s σ H _ I hw) fun v s1 ⟨x, H1, I1, r1, q1⟩ => ?_) (he _)
  obtain ⟨d, rfl, q⟩ := q1
  cases r1
  exact wpAny_truthy_bool ⟨H1, I1, q⟩
variable {tA tB' : TT} {rest : List Expr}
def tAnd (t u : TT) : TT := fun σ H Q => t σ H fun c H1 => if c = true then u σ H1 Q else Q false H1
def tNot (t : TT) : TT := fun σ H Q => t σ H fun c H1 => Q (!c) H1
theorem pw_and1 (ha : PT X a tA) : PW X (.BoolOp .And [a] pos) tA := by
  intro wh pins s σ H Q I h
  refine isTrue_and (thn (ha pins s σ H Q I h) fun c s1 e => ?_)
  cases c with
  | true => exact isTrue_and_nil e
  | false => exact e
theorem pw_and (ha : PT X a tA) (hb : PW X (.BoolOp .And (b :: rest) pos) tB') : PW X (.BoolOp .And (a :: b :: rest) pos) (tAnd tA tB') := by
  intro wh pins s σ H Q I h
  refine isTrue_and (thn (ha pins s σ H _ I h) fun c s1 ⟨H1, I1, q1⟩ => ?_)
  cases c with
  | true => exact hb wh pins s1 σ H1 Q I1 q1
  | false => exact ⟨H1, I1, q1⟩
theorem pt_not (ha : PT X a tA) : PT X (.UnaryOp .Not a pos) (tNot tA) := by
  intro pins s σ H Q I h
  exact isTrue_not (ha pins s σ H (fun c H1 => Q (!c) H1) I h)
def tAndV (ta tb : TE) : TE := fun σ H Q => ta σ H fun x H1 => ∃ c, x = .bl c ∧ if c = true then tb σ H1 Q else Q (.bl false) H1
def tOrV (ta tb : TE) : TE := fun σ H Q => ta σ H fun x H1 => ∃ c, x = .bl c ∧ if c = true then Q (.bl true) H1 else tb σ H1 Q
def tNotV (ta : TE) : TE := fun σ H Q => ta σ H fun x H1 => ∃ c, x = .bl c ∧ Q (.bl (!c)) H1
theorem pe_one {op} {t : TE} (h : PE X a t) : PE X (.BoolOp op [a] pos) t := fun pins s σ H Q I hw => BoolOp_one (h pins s σ H Q I hw)
theorem pe_and (ha : PE X a ta) (hb : PE X (.BoolOp .And (b :: rest) pos) tb) : PE X (.BoolOp .And (a :: b :: rest) pos) (tAndV ta tb) := by
  intro pins s σ H Q I h
  refine BoolOp_and (thn (ha pins s σ H _ I h) fun v s1 ⟨x, H1, I1, r1, q1⟩ => ?_)
  obtain ⟨c, rfl, q1⟩ := q1
  cases r1
  refine wpAny_truthy_bool ?_
  cases c with
  | true => exact hb pins s1 σ H1 Q I1 q1
  | false => exact ⟨.bl false, H1, I1, rfl, q1⟩
theorem pe_or (ha : PE X a ta) (hb : PE X (.BoolOp .Or (b :: rest) pos) tb) : PE X (.BoolOp .Or (a :: b :: rest) pos) (tOrV ta tb) := by
  intro pins s σ H Q I h
  refine BoolOp_or (thn (ha pins s σ H _ I h) fun v s1 ⟨x, H1, I1, r1, q1⟩ => ?_)
  obtain ⟨c, rfl, q1⟩ := q1
  cases r1
  refine wpAny_truthy_bool ?_
  cases c with
  | false => exact hb pins s1 σ H1 Q I1 q1
  | true => exact ⟨.bl true, H1, I1, rfl, q1⟩
theorem pe_not (ha : PE X a ta) : PE X (.UnaryOp .Not a pos) (tNotV ta) := by
  intro pins s σ H Q I h
  refine UnaryOp_ (thn (ha pins s σ H _ I h) fun v s1 ⟨x, H1, I1, r1, q1⟩ => ?_)
  obtain ⟨c, rfl, q1⟩ := q1
  cases r1
  exact not_of (wpAny_truthy_bool ⟨.bl (!c), H1, I1, rfl, q1⟩)
def tIf (t : TT) (ta tb : TE) : TE := fun σ H Q => t σ H fun c H1 => if c = true then ta σ H1 Q else tb σ H1 Q
theorem pe_ifExp {c : Expr} (hc : PT X c tA) (ha : PE X a ta) (hb : PE X b tb) : PE X (.IfExp c a b pos) (tIf tA ta tb) := by
  intro pins s σ H Q I h
  refine wpAny_IfExp (thn (hc pins s σ H _ I h) fun d s1 ⟨H1, I1, q1⟩ => ?_)
  cases d with
  | true => exact ha pins s1 σ H1 Q I1 q1
  | false => exact hb pins s1 σ H1 Q I1 q1
end
end L2
namespace L2
open PySem PySem.Spec PyProof.Rows
def SqL (K : PySem.W.Frag) (H : Hp) (a : Addr) (xs : List V) : Prop :=
  Rd H a (.lst xs) ∨
    ∃ (o : Obj) (its : Array Value) (n : Nat), K.lookup a = some o ∧ o.cls = .type "list" ∧ o.dict = none ∧ o.data = .seq its n ∧ its.size ≤ sizeLine ∧ Vals xs its.toList
def SqT (K : PySem.W.Frag) (H : Hp) (a : Addr) (xs : List V) : Prop :=
  Rd H a (.tup xs) ∨
    ∃ (o : Obj) (its : Array Value) (n : Nat), K.lookup a = some o ∧ o.cls = .type "tuple" ∧ o.data = .seq its n ∧ its.size ≤ sizeLine ∧ Vals xs its.toList
def absV : Value → Option V
  | .none => some .non
  | .bool b => some (.bl b)
  | .int i _ => some (.int i)
  | .str x _ => some (.str x)
  | .bytes b _ => some (.byt b)
  | .float b _ => some (.flt b)
  | .ref a => some (.ref a)
  | .type n => some (.ty n)
  | _ => none
theorem RelV.abs {x : V} {u : Value} (r : RelV x u) : absV u = some x := by
  cases x with
  | non => cases r; rfl
  | bl _ => cases r; rfl
  | int _ => obtain ⟨t, rfl⟩ := r; rfl
  | str _ => obtain ⟨t, rfl⟩ := r; rfl
  | byt _ => obtain ⟨t, rfl⟩ := r; rfl
  | flt _ => obtain ⟨t, rfl⟩ := r; rfl
  | ref _ => cases r; rfl
  | ty _ => cases r; rfl
theorem RelV.inj {x y : V} {u : Value} (r : RelV x u) (q : RelV y u) : x = y := Option.some.inj (r.abs.symm.trans q.abs)
theorem Vals.inj : ∀ {xs ys : List V} {us : List Value}, Vals xs us → Vals ys us → xs = ys
  | _, _, _, .nil, .nil => rfl
  | _, _, _, .cons r t, .cons r' t' => by rw [r.inj r', Vals.inj t t']
section
variable {X : Cx} {pins : List (Addr × Obj)} {σ : St} {H : Hp} {s : Shared} {a : Addr} {xs ys : List V}
theorem SqL.of {K : PySem.W.Frag} (h : H a = some (.lst xs)) : SqL K H a xs := .inl (.inl h)
theorem SqT.of {K : PySem.W.Frag} (h : H a = some (.tup xs)) : SqT K H a xs := .inl (.inl h)
theorem Inv.list (I : Inv X pins σ H s) (h : SqL X.K H a xs) : ∃ its : List Value, Vals xs its ∧ PlainL s.heap a its.toArray ∧ xs.length ≤ sizeLine := by
  rcases h with h | ⟨o, its, n, hk, hc, hd, hs, hz, r⟩
  · obtain ⟨z, its, n, r, e⟩ := h.ok I.hok
    exact ⟨its, r, ⟨_, n, e, rfl, rfl, rfl⟩, z⟩
  · refine ⟨its.toList, r, ⟨o, n, I.kIn a o hk, hc, hd, by simpa using hs⟩, ?_⟩
    have e := r.length
    simp only [Array.length_toList] at e
    omega
theorem Inv.tuple (I : Inv X pins σ H s) (h : SqT X.K H a xs) : ∃ its : List Value, Vals xs its ∧ IsTup s.heap a its.toArray ∧ xs.length ≤ sizeLine := by
  rcases h with h | ⟨o, its, n, hk, hc, hs, hz, r⟩
  · obtain ⟨z, its, r, p⟩ := h.ok I.hok
    exact ⟨its, r, p, z⟩
  · refine ⟨its.toList, r, ⟨o, I.kIn a o hk, hc, n, by simpa using hs⟩, ?_⟩
    have e := r.length
    simp only [Array.length_toList] at e
    omega
theorem Inv.list_inj (I : Inv X pins σ H s) (h : SqL X.K H a xs) (h' : SqL X.K H a ys) : xs = ys := by
  obtain ⟨its, r, ⟨o, n, e, _, _, d⟩, _⟩ := I.list h
  obtain ⟨its', r', ⟨o', n', e', _, _, d'⟩, _⟩ := I.list h'
  rw [e] at e'; cases e'
  rw [d] at d'
  injection d' with d1 _
  have : its = its' := by simpa using congrArg Array.toList d1
  subst this
  exact r.inj r'
theorem Inv.tuple_inj (I : Inv X pins σ H s) (h : SqT X.K H a xs) (h' : SqT X.K H a ys) : xs = ys := by
  obtain ⟨its, r, ⟨o, e, _, n, d⟩, _⟩ := I.tuple h
  obtain ⟨its', r', ⟨o', e', _, n', d'⟩, _⟩ := I.tuple h'
  rw [e] at e'; cases e'
  rw [d] at d'
  injection d' with d1 _
  have : its = its' := by simpa using congrArg Array.toList d1
  subst this
  exact r.inj r'
end
abbrev Cx.wish (X : Cx) (E : Value → Shared → Prop) : Cx := { X with xe := E }
abbrev Cx.nox (X : Cx) : Cx := X.wish fun _ _ => False
theorem Cx.Ok.wish {X : Cx} (ok : X.Ok) (E : Value → Shared → Prop) : (X.wish E).Ok :=
  ⟨ok.mod, ok.kind, ok.glob, ok.blt, ok.above, ok.inj, ok.has, ok.cab, ok.hd, ok.frames, ok.stk, ok.exf, ok.bs, ok.bsz, ok.noex, ok.exfs, ok.funs, ok.frf⟩
theorem Cx.Ok.unwish {X : Cx} {E : Value → Shared → Prop} (ok : (X.wish E).Ok) : X.Ok :=
  ⟨ok.mod, ok.kind, ok.glob, ok.blt, ok.above, ok.inj, ok.has, ok.cab, ok.hd, ok.frames, ok.stk, ok.exf, ok.bs, ok.bsz, ok.noex, ok.exfs, ok.funs, ok.frf⟩
section
variable {X : Cx} {pins : List (Addr × Obj)} {σ : St} {H : Hp} {s : Shared} {E : Value → Shared → Prop}
theorem Inv.wish (I : Inv X pins σ H s) (E : Value → Shared → Prop) : Inv (X.wish E) pins σ H s := ⟨I.ok.wish E, I.os, I.bare, I.base, I.loc, I.cell, I.free, I.freeC, I.pin, I.hok, I.len⟩
theorem Inv.unwish (I : Inv (X.wish E) pins σ H s) : Inv X pins σ H s := ⟨I.ok.unwish, I.os, I.bare, I.base, I.loc, I.cell, I.free, I.freeC, I.pin, I.hok, I.len⟩
theorem SP.unwish {D : Ends} {f : Flow} {s' : Shared} (h : SP (X.wish E) pins D f s') : SP X pins D f s' := by
  cases f with
  | next => obtain ⟨σ', H', I, q⟩ := h; exact ⟨σ', H', I.unwish, q⟩
  | brk => obtain ⟨σ', H', I, q⟩ := h; exact ⟨σ', H', I.unwish, q⟩
  | cont => obtain ⟨σ', H', I, q⟩ := h; exact ⟨σ', H', I.unwish, q⟩
  | ret u => obtain ⟨v, σ', H', I, r, q⟩ := h; exact ⟨v, σ', H', I.unwish, r, q⟩
theorem PSs.nox {st : List Stmt} {t : TS} (h : PSs X.nox st t) : PSs X st t := fun pins s σ H D I hw =>
  wpAny_mono (h pins s σ H D (I.wish _) hw) (fun _ _ q => q.unwish) fun _ _ z => False.elim z
end
section
variable {X : Cx} {st : Stmt} {rest : List Stmt} {t u : TS} {e : Expr} {te : TE} {pos : Pos}
def tNext : TS := fun D σ H => D.nx σ H
def tSeq (t u : TS) : TS := fun D σ H => t { D with nx := u D } σ H
theorem pss_nil : PSs X [] tNext := fun _ _ σ H _ I h => wpAny_execs_nil ⟨σ, H, I, h⟩
theorem pss_cons (h1 : PS X st t) (h2 : PSs X rest u) : PSs X (st :: rest) (tSeq t u) := by
  intro pins s σ H D I h
  refine wpAny_execs_cons (thn (h1 pins s σ H { D with nx := u D } I h) fun f s1 q => ?_)
  cases f with
  | next =>
    obtain ⟨σ', H', I', q⟩ := q
    exact h2 pins s1 σ' H' D I' q
  | ret v => exact q
  | brk => exact q
  | cont => exact q
theorem pss_one (h1 : PS X st t) : PSs X [st] t := by
  intro pins s σ H D I h
  refine wpAny_execs_cons (thn (h1 pins s σ H D I h) fun f s1 q => ?_)
  cases f with
  | next => exact wpAny_execs_nil q
  | ret v => exact q
  | brk => exact q
  | cont => exact q
theorem Inv.quiet {pins : List (Addr × Obj)} {σ : St} {H : Hp} {s : Shared} (I : Inv X pins σ H s) : interactive X.env = false := by simp [interactive, I.ok.kind]
def tDrop (te : TE) : TS := fun D σ H => te σ H fun _ H1 => D.nx σ H1
theorem ps_expr (he : PE X e te) (hs : swapsWith e none pos.line X.env = pure false := by rfl) : PS X (.Expr e pos) (tDrop te) := by
  intro pins s σ H D I h
  exact wpAny_Expr_any (thn (he pins s σ H _ I h) fun v s1 ⟨x, H1, I1, r1, q1⟩ => ⟨σ, H1, I1, q1⟩) I.quiet hs
def tRet (te : TE) : TS := fun D σ H => te σ H D.rt
theorem ps_ret (he : PE X e te) : PS X (.Return (some e) pos) (tRet te) := by
  intro pins s σ H D I h
  exact wpAny_Return_some (thn (he pins s σ H _ I h) fun v s1 ⟨x, H1, I1, r1, q1⟩ => ⟨x, σ, H1, I1, r1, q1⟩)
def tIfS (c : TT) (t u : TS) : TS := fun D σ H => c σ H fun b H1 => if b = true then t D σ H1 else u D σ H1
theorem ps_if {c : Expr} {a b : List Stmt} {tc : TT} (hc : PT X c tc) (ha : PSs X a t) (hb : PSs X b u) : PS X (.If c a b pos) (tIfS tc t u) := by
  intro pins s σ H D I h
  refine wpAny_If (thn (hc pins s σ H _ I h) fun d s1 ⟨H1, I1, q1⟩ => ?_)
  cases d with
  | true => exact ha pins s1 σ H1 D I1 q1
  | false => exact hb pins s1 σ H1 D I1 q1
def tNever : TS := fun _ _ _ => False
theorem ps_never : PS X st tNever := fun _ _ _ _ _ _ h => h.elim
end
abbrev TG := V → St → Hp → (St → Hp → Prop) → Prop
abbrev TGs := List V → St → Hp → (St → Hp → Prop) → Prop
def PG (X : Cx) (target : Expr) (t : TG) : Prop :=
  ∀ (pins : List (Addr × Obj)) (s : Shared) (σ : St) (H : Hp) (v : V) (u : Value) (Q : St → Hp → Prop), Inv X pins σ H s → RelV v u → t v σ H Q →
    wpAny (model X.prog X.w) X.A (assign target X.env u) (fun _ s' => ∃ σ' H', Inv X pins σ' H' s' ∧ Q σ' H') X.xe s
def PGs (X : Cx) (ts : List Expr) (t : TGs) : Prop :=
  ∀ (pins : List (Addr × Obj)) (s : Shared) (σ : St) (H : Hp) (vs : List V) (us : List Value) (Q : St → Hp → Prop), Inv X pins σ H s → Vals vs us → t vs σ H Q →
    wpAny (model X.prog X.w) X.A (assignInOrder ((assignEach ts X.env).map (·.2)) us) (fun _ s' => ∃ σ' H', Inv X pins σ' H' s' ∧ Q σ' H') X.xe s
abbrev TSet := V → V → V → Hp → (Hp → Prop) → Prop
def PSet (X : Cx) (t : TSet) : Prop :=
  ∀ (pins : List (Addr × Obj)) (s : Shared) (σ : St) (H : Hp) (o i v : V) (ov iv u : Value) (Q : Hp → Prop), Inv X pins σ H s → RelV o ov → RelV i iv → RelV v u → t o i v H Q →
    wpAny (model X.prog X.w) X.A (setItem ov iv u) (fun _ s' => ∃ H', Inv X pins σ H' s' ∧ Q H') X.xe s
section
variable {X : Cx} {pos : Pos}
def gName (i : Nat) : TG := fun v σ H Q => Q (σ.set i (some v)) H
theorem pg_name {i : Nat} {x : Str} (hN : X.N.Nodup) (hi : X.N[i]? = some x) (hx : Loc X.env.scope x) (hf : X.fn x = true ∨ X.env.scope.names.lookup x = some .local := by first | exact .inl rfl | exact .inr rfl | assumption) : PG X (.Name x pos) (gName i) := by
  intro pins s σ H v u Q I r h
  exact wpAny_assign_Name (store_ok I hN hi hx r (fun s' I' => ⟨_, H, I', h⟩) hf)
def gNil : TGs := fun vs σ H Q => vs = [] ∧ Q σ H
def gCons (t : TG) (u : TGs) : TGs := fun vs σ H Q => ∃ v r, vs = v :: r ∧ t v σ H fun σ' H' => u r σ' H' Q
theorem pgs_nil : PGs X [] gNil := by
  intro pins s σ H vs us Q I r h
  obtain ⟨e, h⟩ := h
  subst e
  cases r
  exact assignInOrder_nil ⟨σ, H, I, h⟩
theorem pgs_cons {e : Expr} {es : List Expr} {t : TG} {u : TGs} (h1 : PG X e t) (h2 : PGs X es u)
    (hs : (assignEach (e :: es) X.env).map (·.2) = assign e X.env :: (assignEach es X.env).map (·.2) := by rfl) : PGs X (e :: es) (gCons t u) := by
  intro pins s σ H vs us Q I r h
  obtain ⟨v, vr, e1, h⟩ := h
  subst e1
  cases r with
  | cons r rr =>
    rw [hs]
    refine assignInOrder_cons (thn (h1 pins s σ H _ _ _ I r h) fun _ s1 ⟨σ1, H1, I1, q1⟩ => ?_)
    exact h2 pins s1 σ1 H1 _ _ Q I1 rr q1
def gTup (K : PySem.W.Frag) (n : Nat) (t : TGs) : TG := fun v σ H Q => ∃ a xs, v = .ref a ∧ SqT K H a xs ∧ xs.length = n ∧ t xs σ H Q
theorem pg_tup {es : List Expr} {k : Nat} {t : TGs} {n : Nat} (hc : X.calm = true) (h : PGs X es t)
    (hn : (assignEach es X.env).length = n := by rfl) (hst : (assignEach es X.env).findIdx? (·.1) = none := by rfl) : PG X (.Tuple es k pos) (gTup X.K n t) := by
  intro pins s σ H v u Q I r hw
  obtain ⟨a, xs, e1, hq, hl, hw⟩ := hw
  subst e1
  cases r
  obtain ⟨its, rv, ht, hz⟩ := I.tuple hq
  refine assign_Tuple_tuple (I.ok.hd hc) ht (by simp [hn, ← hl, rv.length]) hst fun h' hx => ?_
  have I1 : Inv X pins σ H { s with heap := h' } := I.kept (t' := s.toks) fun b o e => hx b o (Nat.ne_of_lt (Heap.lt_size e)) e
  exact h pins _ σ H xs _ Q I1 (by simpa using rv) hw
def gSub (to ti : TE) (t : TSet) : TG := fun v σ H Q => to σ H fun o H1 => ti σ H1 fun i H2 => t o i v H2 fun H3 => Q σ H3
theorem pg_sub {o i : Expr} {to ti : TE} {t : TSet} (ho : PE X o to) (hi : PE X i ti) (hs : PSet X t)
    (ha : ∀ v, assign (.Subscript o i pos) X.env v = (do
      let ov ← holding [v] (eval o X.env)
      let iv ← holding [v, ov] (eval i X.env)
      standAt pos
      holding [v, ov, iv] (setItem ov iv v)
      release [v, ov, iv] []) := by intro _; rfl) : PG X (.Subscript o i pos) (gSub to ti t) := by
  intro pins s σ H v u Q I r h
  rw [ha]
  refine wpAny_bind (wpAny_holding (thn (ho pins s σ H _ I h) fun ov s1 ⟨x, H1, I1, r1, q1⟩ => ?_))
  refine wpAny_bind (wpAny_holding (thn (hi pins s1 σ H1 _ I1 q1) fun iv s2 ⟨y, H2, I2, r2, q2⟩ => ?_))
  refine wpAny_bind (wpAny_standAt (wpAny_bind (wpAny_holding (thn (hs pins s2 σ H2 x y v ov iv u _ I2 r1 r2 r q2) fun _ s3 ⟨H3, I3, q3⟩ => ?_))))
  exact wpAny_release ⟨σ, H3, I3, q3⟩
def tAsg (te : TE) (g : TG) : TS := fun D σ H => te σ H fun x H1 => g x σ H1 D.nx
theorem ps_asg {tg e : Expr} {te : TE} {g : TG} (he : PE X e te) (hg : PG X tg g) (hs : swapsWithSole [tg] e pos.line X.env = pure false := by rfl) (hw : swappedStores [tg] e X.env = pure none := by rfl)
    (h1 : (assignEach [tg] X.env).map (·.2) = [assign tg X.env] := by rfl) : PS X (.Assign [tg] e pos) (tAsg te g) := by
  intro pins s σ H D I h
  refine wpAny_Assign_stores (thn (he pins s σ H _ I h) fun v s1 ⟨x, H1, I1, r1, q1⟩ => ?_) hs hw
  rw [h1]
  exact thn (hg pins s1 σ H1 x v _ I1 r1 q1) fun _ s2 q => q
theorem ps_set {i : Nat} {x : Str} {e : Expr} {te : TE} {pos' : Pos} (hN : X.N.Nodup) (hi : X.N[i]? = some x) (hx : Loc X.env.scope x) (he : PE X e te) (hs : swapsWith e (some (.Name x pos')) pos.line X.env = pure false := by rfl) (hf : X.fn x = true ∨ X.env.scope.names.lookup x = some .local := by first | exact .inl rfl | exact .inr rfl | assumption) :
    PS X (.Assign [.Name x pos'] e pos) (tAsg te (gName i)) := by
  intro pins s σ H D I h
  refine wpAny_Assign_Name (thn (he pins s σ H _ I h) fun v s1 ⟨y, H1, I1, r1, q1⟩ => ?_) hs
  exact store_ok I1 hN hi hx r1 (fun s2 I2 => ⟨_, H1, I2, q1⟩) hf
end
section
variable {X : Cx} {pos : Pos}
def tWhile (c : TT) (tb : TS) : TS := fun D σ H => ∃ W : Nat → St → Hp → Prop, (∃ m, W m σ H) ∧ ∀ m σ H, W m σ H →
  c σ H fun b H1 => if b = true then ∃ N : St → Hp → Prop, (∀ σ' H', N σ' H' → ∃ m', m' < m ∧ W m' σ' H') ∧ tb { D with nx := N, ct := N, bk := D.nx } σ H1 else D.nx σ H1
theorem ps_while {c : Expr} {body : List Stmt} {tc : TT} {tb : TS} (hp : PassesOwn (model X.prog X.w) X.A X.env X.xe) (hc : PT X c tc) (hb : PSs X body tb) : PS X (.While c body [] pos) (tWhile tc tb) := by
  intro pins s σ H D I h
  obtain ⟨W, ⟨m0, w0⟩, turn⟩ := h
  refine wpAny_While (codeAny_whileLoop (fun n s' => ∃ σ' H', Inv X pins σ' H' s' ∧ W n σ' H') ?_ m0 ⟨σ, H, I, w0⟩)
  rintro n s1 ⟨σ1, H1, I1, w1⟩
  refine wpAny_passesOwn hp (thn (hc pins s1 σ1 H1 _ I1 (turn n σ1 H1 w1)) fun b s2 ⟨H2, I2, q2⟩ => ?_)
  cases b with
  | true =>
    obtain ⟨N, hN, q2⟩ := q2
    rw [if_pos rfl]
    refine wpAny_passesOwn hp (thn (hb pins s2 σ1 H2 _ I2 q2) fun f s3 q3 => ?_)
    cases f with
    | next =>
      obtain ⟨σ3, H3, I3, n3⟩ := q3
      obtain ⟨m', hm, w3⟩ := hN σ3 H3 n3
      exact ⟨m', hm, σ3, H3, I3, w3⟩
    | cont =>
      obtain ⟨σ3, H3, I3, n3⟩ := q3
      obtain ⟨m', hm, w3⟩ := hN σ3 H3 n3
      exact ⟨m', hm, σ3, H3, I3, w3⟩
    | brk => exact q3
    | ret v => exact q3
  | false =>
    rw [if_neg Bool.false_ne_true]
    exact wpAny_execs_nil ⟨σ1, H2, I2, q2⟩
end
structure It where
  go : Nat → Hp → Prop
  yld : Nat → Hp → V → Hp → Prop
  stop : Nat → Hp → Prop
def FpOk (X : Cx) (pins : List (Addr × Obj)) (H : Hp) (b : Addr) : Prop :=
  H b = none ∧ b ≠ X.env.locals ∧ b ∉ X.fs ∧ (b ∈ X.ex ∨ X.s₀.heap.objs.size ≤ b) ∧ (∀ x c, X.env.cells.lookup x = some c → c ≠ b) ∧ ∀ p ∈ X.pn ++ pins, p.1 ≠ b
theorem Inv.fpOk {X : Cx} {pins : List (Addr × Obj)} {σ : St} {H H' : Hp} {s : Shared} {b : Addr} (I : Inv X pins σ H s) (hb : s.heap.objs.size ≤ b) (hn : H' b = none) : FpOk X pins H' b := by
  refine ⟨hn, Nat.ne_of_gt (Nat.lt_of_lt_of_le I.lt hb), I.nofs hb, .inr (Nat.le_trans I.sz hb), fun x c e z => ?_, fun p hp z => ?_⟩
  · obtain ⟨v, q⟩ := I.cell x c e
    exact absurd (Nat.lt_of_lt_of_le q.lt (by rw [z]; exact hb)) (Nat.lt_irrefl _)
  · exact absurd (Nat.lt_of_lt_of_le (Heap.lt_size (I.pin p hp).1) (by rw [z]; exact hb)) (Nat.lt_irrefl _)
structure Turn (P : Program) (w : World) (K : PySem.W.Frag) (tg : Expr) (J : It) (fp : List Addr) (it : Addr) (tn : Nat → Heap → Prop) : Prop where
  mem : it ∈ fp
  obj : ∀ i h, tn i h → ∀ b ∈ fp, ∃ o, h.get? b = some o ∧ ∀ v, o.data ≠ .cell v
  keep : ∀ i h h', tn i h → (∀ b ∈ fp, ∀ o, h.get? b = some o → h'.get? b = some o) → tn i h'
  item : ∀ (X : Cx), X.prog = P → X.w = w → X.K = K → X.calm = true → ∀ (i : Nat) (pins : List (Addr × Obj)) (s : Shared) (σ : St) (H : Hp) (E : Value → Shared → Prop), Inv X pins σ H s → (∀ b ∈ fp, FpOk X pins H b) → tn i s.heap → J.go i H →
    wpAny (model P w) X.A (pyNext (.ref it)) (fun r s1 => ∃ u, r = some u ∧
      wpAny (model P w) X.A (letOwnedTupleGo tg (.ref it) u) (fun _ s2 => ∃ x H', Inv X pins σ H' s2 ∧ RelV x u ∧ J.yld i H x H' ∧ tn (i + 1) s2.heap ∧ ∀ b ∈ fp, H' b = none) E s1) E s
  done : ∀ (X : Cx), X.prog = P → X.w = w → X.K = K → X.calm = true → ∀ (i : Nat) (pins : List (Addr × Obj)) (s : Shared) (σ : St) (H : Hp) (E : Value → Shared → Prop), Inv X pins σ H s → (∀ b ∈ fp, FpOk X pins H b) → tn i s.heap → J.stop i H →
    wpAny (model P w) X.A (pyNext (.ref it)) (fun r s1 => r = none ∧ Inv X pins σ H s1) E s
  self : ∀ (A : Around) (i : Nat) (s : Shared) (Q : Value → Shared → Prop) (E : Value → Shared → Prop), tn i s.heap → Q (.ref it) s → wpAny (model P w) A (pyIter (.ref it)) Q E s
abbrev TI := St → Hp → (It → Hp → Prop) → Prop
def PIE (X : Cx) (pins : List (Addr × Obj)) (σ : St) (tg : Expr) (R : It → Hp → Prop) (itv : Value) (s2 : Shared) : Prop :=
  ∃ (it : Addr) (fp : List Addr) (tn : Nat → Heap → Prop) (J : It) (H' : Hp), itv = .ref it ∧ Inv X pins σ H' s2 ∧ Turn X.prog X.w X.K tg J fp it tn ∧ tn 0 s2.heap ∧ (∀ b ∈ fp, FpOk X pins H' b) ∧ R J H'
def PI (X : Cx) (tg iter : Expr) (wi : TI) : Prop :=
  ∀ (pins : List (Addr × Obj)) (s : Shared) (σ : St) (H : Hp) (R : It → Hp → Prop), Inv X pins σ H s → wi σ H R →
    wpAny (model X.prog X.w) X.A (eval iter X.env) (fun v s1 => wpAny (model X.prog X.w) X.A (pyIter v) (PIE X pins σ tg R) X.xe s1) X.xe s
theorem go_of {M : Model} {A : Around} {E : Value → Shared → Prop} {s : Shared} {tg : Expr} {it : Addr} {u : Value} {o : Obj} {n : String} {vs : Array Value} {Q : Unit → Shared → Prop} (ho : s.heap.get? it = some o) (hc : o.cls = .type n) (hd : o.data = .fields vs)
    (hn : ["enumerate", "zip", "dict_itemiterator", "dict_reverseitemiterator", "odict_iterator", "itertools.zip_longest", "itertools.pairwise"].contains n = false) (hQ : Q () s) : wpAny M A (letOwnedTupleGo tg (.ref it) u) Q E s := by
  unfold letOwnedTupleGo
  cases tg <;> first
    | exact wpAny_pure hQ
    | (cases u <;> first
        | exact wpAny_pure hQ
        | (refine wpAny_bind (wpAny_load ho ?_)
           rw [hc, hd]
           show wpAny M A (if (["enumerate", "zip", "dict_itemiterator", "dict_reverseitemiterator", "odict_iterator", "itertools.zip_longest", "itertools.pairwise"].contains n && vs[0]? == some (rawInt _)) = true then _ else _) Q E s
           rw [if_neg (by intro h; rw [hn, Bool.false_and] at h; cases h)]
           exact wpAny_pure hQ))
def Itl (K : PySem.W.Frag) (a : Addr) : It :=
  ⟨fun i H => ∃ xs x, SqL K H a xs ∧ xs[i]? = some x, fun i H x H' => H' = H ∧ ∀ xs, SqL K H a xs → xs[i]? = some x, fun i H => ∃ xs, SqL K H a xs ∧ xs.length ≤ i⟩
def Itt (K : PySem.W.Frag) (a : Addr) : It :=
  ⟨fun i H => ∃ xs x, SqT K H a xs ∧ xs[i]? = some x, fun i H x H' => H' = H ∧ ∀ xs, SqT K H a xs → xs[i]? = some x, fun i H => ∃ xs, SqT K H a xs ∧ xs.length ≤ i⟩
def Itr (lo : Int) (n : Nat) : It := ⟨fun i _ => i < n, fun i H x H' => H' = H ∧ x = .int (lo + i), fun i _ => n ≤ i⟩
theorem turn_list {P : Program} {w : World} {K : PySem.W.Frag} {tg : Expr} (a it : Addr) : Turn P w K tg (Itl K a) [it] it (fun i h => h.IsListIter it a i) where
  mem := by simp
  obj := fun i h st b hb => by
    have e : b = it := by simpa using hb
    subst e
    obtain ⟨o, e, c, d⟩ := st
    exact ⟨o, e, fun v z => by rw [d] at z; cases z⟩
  keep := fun i h h' st k => st.at fun o e => k it (by simp) o e
  item := by
    intro X hP hw hK hc i pins s σ H E I hf st hg
    subst hP hw hK
    obtain ⟨xs, x, hq, hx⟩ := hg
    obtain ⟨its, rv, p, hz⟩ := I.list hq
    obtain ⟨u, hu, ru⟩ := rv.get hx
    obtain ⟨f0, f1, f2, f3, f4, f5⟩ := hf it (by simp)
    refine wpAny_pyNext_list_item st p.isList (x := u) (by simpa using hu) fun h' st' sb => ?_
    have I1 : Inv X pins σ H { s with heap := h' } := I.turned (t' := s.toks) (fun b o hb e => (sb.2 b hb).trans e) f0 f1 f3 f4 f5
    obtain ⟨o, e, c, d⟩ := id st'
    exact ⟨u, rfl, go_of (s := { s with heap := h' }) e c d (by decide) ⟨x, H, I1, ru, ⟨rfl, fun ys hy => by rw [I.list_inj hy hq]; exact hx⟩, st', fun b hb => (hf b hb).1⟩⟩
  done := by
    intro X hP hw hK hc i pins s σ H E I hf st hg
    subst hP hw hK
    obtain ⟨xs, hq, hx⟩ := hg
    obtain ⟨its, rv, p, hz⟩ := I.list hq
    obtain ⟨f0, f1, f2, f3, f4, f5⟩ := hf it (by simp)
    have hl := rv.length
    exact wpAny_pyNext_list_end (I.ok.hd hc) st p.isList (by simp; omega) fun h' eb => ⟨rfl, I.turned (t' := s.toks) (fun b o hb e => eb b o hb e) f0 f1 f3 f4 f5⟩
  self := fun _ _ _ _ _ st h => wpAny_pyIter_listiter st h
theorem turn_tuple {P : Program} {w : World} {K : PySem.W.Frag} {tg : Expr} (a it : Addr) : Turn P w K tg (Itt K a) [it] it (fun i h => h.IsTupleIter it a i) where
  mem := by simp
  obj := fun i h st b hb => by
    have e : b = it := by simpa using hb
    subst e
    obtain ⟨o, e, c, d⟩ := st
    exact ⟨o, e, fun v z => by rw [d] at z; cases z⟩
  keep := fun i h h' st k => st.at fun o e => k it (by simp) o e
  item := by
    intro X hP hw hK hc i pins s σ H E I hf st hg
    subst hP hw hK
    obtain ⟨xs, x, hq, hx⟩ := hg
    obtain ⟨its, rv, p, hz⟩ := I.tuple hq
    obtain ⟨u, hu, ru⟩ := rv.get hx
    obtain ⟨f0, f1, f2, f3, f4, f5⟩ := hf it (by simp)
    refine wpAny_pyNext_tuple_item st (show s.heap.IsTuple a its.toArray from p) (x := u) (by simpa using hu) fun h' st' sb => ?_
    have I1 : Inv X pins σ H { s with heap := h' } := I.turned (t' := s.toks) (fun b o hb e => (sb.2 b hb).trans e) f0 f1 f3 f4 f5
    obtain ⟨o, e, c, d⟩ := id st'
    exact ⟨u, rfl, go_of (s := { s with heap := h' }) e c d (by decide) ⟨x, H, I1, ru, ⟨rfl, fun ys hy => by rw [I.tuple_inj hy hq]; exact hx⟩, st', fun b hb => (hf b hb).1⟩⟩
  done := by
    intro X hP hw hK hc i pins s σ H E I hf st hg
    subst hP hw hK
    obtain ⟨xs, hq, hx⟩ := hg
    obtain ⟨its, rv, p, hz⟩ := I.tuple hq
    obtain ⟨f0, f1, f2, f3, f4, f5⟩ := hf it (by simp)
    have hl := rv.length
    exact wpAny_pyNext_tuple_end (I.ok.hd hc) st (show s.heap.IsTuple a its.toArray from p) (by simp; omega) fun h' eb => ⟨rfl, I.turned (t' := s.toks) (fun b o hb e => eb b o hb e) f0 f1 f3 f4 f5⟩
  self := fun _ _ _ _ _ st h => wpAny_pyIter_tupleiter st h
theorem turn_range {P : Program} {w : World} {K : PySem.W.Frag} {tg : Expr} (it : Addr) (lo : Int) (n : Nat) : Turn P w K tg (Itr lo n) [it] it (fun i h => IsRangeIter h it (lo + (i : Nat) * 1) ((n : Int) - (i : Nat)) 1) where
  mem := by simp
  obj := fun i h st b hb => by
    have e : b = it := by simpa using hb
    subst e
    exact ⟨_, st, fun v z => by
      have z' : Data.fields _ = Data.cell v := z
      cases z'⟩
  keep := fun i h h' st k => k it (by simp) _ st
  item := by
    intro X hP hw hK hc i pins s σ H E I hf st hg
    subst hP hw hK
    obtain ⟨f0, f1, f2, f3, f4, f5⟩ := hf it (by simp)
    have W := Walks.range (prog := X.prog) (w := X.w) (I.ok.hd hc) it lo 1 n
    refine W.item i s _ _ hg st fun v h' tk hv st' kk => ?_
    obtain ⟨t, rfl⟩ := hv
    have I1 : Inv X pins σ H { s with heap := h', toks := tk } := I.turned (fun b o hb e => kk b o (by simpa using hb) e) f0 f1 f3 f4 f5
    refine ⟨_, rfl, go_of (s := { s with heap := h', toks := tk }) (n := "range_iterator") st' rfl rfl (by decide) ⟨.int (lo + i), H, I1, ⟨t, ?_⟩, ⟨rfl, rfl⟩, st', fun b hb => (hf b hb).1⟩⟩
    rw [Int.mul_one]
  done := by
    intro X hP hw hK hc i pins s σ H E I hf st hg
    subst hP hw hK
    obtain ⟨f0, f1, f2, f3, f4, f5⟩ := hf it (by simp)
    exact wpAny_pyNext_range_end (I.ok.hd hc) st (by have : n ≤ i := hg; omega) fun h' eb => ⟨rfl, I.turned (t' := s.toks) (fun b o hb e => eb b o hb e) f0 f1 f3 f4 f5⟩
  self := fun _ _ _ _ _ st h => wpAny_pyIter_rangeiter st h
end L2
namespace L2
open PySem PySem.Spec PyProof.Rows
section
variable {X : Cx} {tg : Expr}
def iList (K : PySem.W.Frag) (tl : TE) : TI := fun σ H R => tl σ H fun x H1 => ∃ a, x = .ref a ∧ (∃ xs, SqL K H1 a xs) ∧ R (Itl K a) H1
def iTup (K : PySem.W.Frag) (tl : TE) : TI := fun σ H R => tl σ H fun x H1 => ∃ a, x = .ref a ∧ (∃ xs, SqT K H1 a xs) ∧ R (Itt K a) H1
theorem pi_list {l : Expr} {tl : TE} (hl : PE X l tl) : PI X tg l (iList X.K tl) := by
  intro pins s σ H R I h
  refine thn (hl pins s σ H _ I h) fun v s1 ⟨x, H1, I1, r1, q1⟩ => ?_
  obtain ⟨a, e, ⟨xs, hq⟩, q⟩ := q1
  subst e
  cases r1
  obtain ⟨its, rv, p, hz⟩ := I1.list hq
  refine wpAny_pyIter_list p.isList ?_
  refine ⟨s1.heap.objs.size, [s1.heap.objs.size], _, _, H1, rfl, I1.kept (t' := s1.toks) fun b o e => Heap.get?_push_of_some _ e, turn_list a _, ⟨_, Heap.get?_push_size _ rfl, rfl, rfl⟩, fun b hb => ?_, q⟩
  have e : b = s1.heap.objs.size := by simpa using hb
  subst e
  exact I1.fpOk (Nat.le_refl _) (I1.hok.fresh (Nat.le_refl _))
theorem pi_tup {l : Expr} {tl : TE} (hl : PE X l tl) : PI X tg l (iTup X.K tl) := by
  intro pins s σ H R I h
  refine thn (hl pins s σ H _ I h) fun v s1 ⟨x, H1, I1, r1, q1⟩ => ?_
  obtain ⟨a, e, ⟨xs, hq⟩, q⟩ := q1
  subst e
  cases r1
  obtain ⟨its, rv, p, hz⟩ := I1.tuple hq
  refine wpAny_pyIter_tuple (show s1.heap.IsTuple a its.toArray from p) ?_
  refine ⟨s1.heap.objs.size, [s1.heap.objs.size], _, _, H1, rfl, I1.kept (t' := s1.toks) fun b o e => Heap.get?_push_of_some _ e, turn_tuple a _, ⟨_, Heap.get?_push_size _ rfl, rfl, rfl⟩, fun b hb => ?_, q⟩
  have e : b = s1.heap.objs.size := by simpa using hb
  subst e
  exact I1.fpOk (Nat.le_refl _) (I1.hok.fresh (Nat.le_refl _))
theorem range_it {pins : List (Addr × Obj)} {σ : St} {H : Hp} {s : Shared} {R : It → Hp → Prop} {E : Value → Shared → Prop} {lo hi : Int} {t u v : Tok} {tk : Nat} (I : Inv X pins σ H s) (h1 : -(2 ^ 62) ≤ lo) (h2 : lo < 2 ^ 62) (h3 : -(2 ^ 62) ≤ hi) (h4 : hi < 2 ^ 62)
    (q : R (Itr lo (hi - lo).toNat) H) : wpAny (model X.prog X.w) X.A (pyIter (.ref s.heap.objs.size)) (PIE X pins σ tg R) E { s with heap := s.heap.push { cls := .type "range", data := .fields #[.int lo t, .int hi u, .int 1 v] }, toks := tk } := by
  refine wpAny_pyIter_range (IsRange.new ..) (small_one h1 h2 h3 h4) ?_
  have I1 : Inv X pins σ H { s with heap := s.heap.push { cls := .type "range", data := .fields #[.int lo t, .int hi u, .int 1 v] }, toks := tk } := I.kept fun b o e => Heap.get?_push_of_some _ e
  refine ⟨(s.heap.push { cls := .type "range", data := .fields #[.int lo t, .int hi u, .int 1 v] }).objs.size, [(s.heap.push { cls := .type "range", data := .fields #[.int lo t, .int hi u, .int 1 v] }).objs.size], _, _, H, rfl,
    I1.kept (t' := tk) fun b o e => Heap.get?_push_of_some _ e, turn_range _ lo (hi - lo).toNat, ?_, fun b hb => ?_, q⟩
  · have e1 : lo + ((0 : Nat) : Int) * 1 = lo := by simp
    have e2 : (((hi - lo).toNat : Nat) : Int) - ((0 : Nat) : Int) = Builtin.Range.rangeSize lo hi 1 := by rw [rangeSize_one]; split <;> omega
    show IsRangeIter _ _ (lo + ((0 : Nat) : Int) * 1) ((((hi - lo).toNat : Nat) : Int) - ((0 : Nat) : Int)) 1
    rw [e1, e2]
    exact Heap.get?_push_size _ rfl
  · have e : b = (s.heap.push { cls := .type "range", data := .fields #[.int lo t, .int hi u, .int 1 v] }).objs.size := by simpa using hb
    subst e
    exact I1.fpOk (Nat.le_refl _) (I1.hok.fresh (Nat.le_refl _))
def iRng1 (ta : TA) : TI := fun σ H R => ta σ H fun vs H1 => ∃ j : Int, vs = [.int j] ∧ -(2 ^ 62) ≤ j ∧ j < 2 ^ 62 ∧ R (Itr 0 j.toNat) H1
def iRng2 (ta : TA) : TI := fun σ H R => ta σ H fun vs H1 => ∃ i j : Int, vs = [.int i, .int j] ∧ (-(2 ^ 62) ≤ i ∧ i < 2 ^ 62 ∧ -(2 ^ 62) ≤ j ∧ j < 2 ^ 62) ∧ R (Itr i (j - i).toNat) H1
theorem pi_range1 {a : Expr} {ta : TA} {p pos : Pos} (hg : Gl X "range") (hm : X.mg "range" = none) (ha : PA X [a] ta) (hs : starEach [a] X.env = [(false, eval a X.env)] := by rfl) : PI X tg (.Call (.Name "range" p) [a] [] pos) (iRng1 ta) := by
  intro pins s σ H R I h
  refine Call_ (ld_blt I hg hm boot_range (PyProof.Rows.callWith_type1 (thn (ha pos pins s σ H _ I h) fun us s1 ⟨vs, H1, I1, r1, q1⟩ => ?_) hs rfl))
  obtain ⟨j, e, q1, q2, q⟩ := q1
  subst e
  cases r1 with
  | cons r rr =>
    cases rr
    obtain ⟨t, rfl⟩ := r
    exact call_range_1 (range_it I1 (by omega) (by omega) q1 q2 (by simpa using q))
theorem pi_range2 {a b : Expr} {ta : TA} {p pos : Pos} (hg : Gl X "range") (hm : X.mg "range" = none) (ha : PA X [a, b] ta) (hs : starEach [a, b] X.env = [(false, eval a X.env), (false, eval b X.env)] := by rfl) (hs2 : starEach [b] X.env = [(false, eval b X.env)] := by rfl) :
    PI X tg (.Call (.Name "range" p) [a, b] [] pos) (iRng2 ta) := by
  intro pins s σ H R I h
  refine Call_ (ld_blt I hg hm boot_range (PyProof.Rows.callWith_type1 (thn (ha pos pins s σ H _ I h) fun us s1 ⟨vs, H1, I1, r1, q1⟩ => ?_) (by rw [hs, hs2]) (by rw [hs2]; rfl)))
  obtain ⟨i, j, e, ⟨q1, q2, q3, q4⟩, q⟩ := q1
  subst e
  cases r1 with
  | cons r rr =>
    cases rr with
    | cons r' rr =>
      cases rr
      obtain ⟨t, rfl⟩ := r
      obtain ⟨t', rfl⟩ := r'
      exact call_range_2 (range_it I1 q1 q2 q3 q4 q)
def tFor (wi : TI) (g : TG) (tb : TS) : TS := fun D σ H => wi σ H fun J H1 => ∃ W : Nat → Nat → St → Hp → Prop, (∃ m, W 0 m σ H1) ∧ ∀ i m σ H, W i m σ H →
  (J.stop i H ∧ D.nx σ H) ∨ (J.go i H ∧ ∃ N : St → Hp → Prop, (∀ σ' H', N σ' H' → ∃ m', m' < m ∧ W (i + 1) m' σ' H') ∧ ∀ x H', J.yld i H x H' → g x σ H' fun σ2 H2 => tb { D with nx := N, ct := N, bk := D.nx } σ2 H2)
def pinsAt (fp : List Addr) (h : Heap) : List (Addr × Obj) := fp.filterMap fun b => (h.get? b).map fun o => (b, o)
theorem mem_pinsAt {fp : List Addr} {h : Heap} {b : Addr} {o : Obj} (hb : b ∈ fp) (e : h.get? b = some o) : (b, o) ∈ pinsAt fp h := List.mem_filterMap.mpr ⟨b, hb, by rw [e]; rfl⟩
theorem of_pinsAt {fp : List Addr} {h : Heap} {p : Addr × Obj} (hp : p ∈ pinsAt fp h) : p.1 ∈ fp ∧ h.get? p.1 = some p.2 := by
  obtain ⟨b, hb, e⟩ := List.mem_filterMap.mp hp
  cases q : h.get? b with
  | none => rw [q] at e; cases e
  | some o =>
    rw [q] at e
    have e' : (b, o) = p := Option.some.inj e
    subst e'
    exact ⟨hb, q⟩
theorem Inv.pinned {pins : List (Addr × Obj)} {σ : St} {H : Hp} {s : Shared} {fp : List Addr} (I : Inv X pins σ H s) (hf : ∀ b ∈ fp, FpOk X pins H b) (ho : ∀ b ∈ fp, ∃ o, s.heap.get? b = some o ∧ ∀ v, o.data ≠ .cell v) : Inv X (pins ++ pinsAt fp s.heap) σ H s :=
  I.pins_of fun p hp => (List.mem_append.mp hp).elim (fun z => I.pin p (List.mem_append_right _ z)) fun z => by
    obtain ⟨hb, e⟩ := of_pinsAt z
    obtain ⟨f0, f1, f2, _⟩ := hf p.1 hb
    obtain ⟨o, e', d⟩ := ho p.1 hb
    rw [e] at e'; cases e'
    exact ⟨e, f0, f1, f2, d⟩
theorem Inv.unpinned {pins pl : List (Addr × Obj)} {σ : St} {H : Hp} {s : Shared} (I : Inv X (pins ++ pl) σ H s) : Inv X pins σ H s := I.pins_of fun p hp => I.pin p (List.mem_append_right _ (List.mem_append_left _ hp))
theorem ps_for {iter : Expr} {body : List Stmt} {wi : TI} {g : TG} {tb : TS} {pos : Pos} (hp : PassesOwn (model X.prog X.w) X.A X.env X.xe) (hc : X.calm = true) (hi : PI X tg iter wi) (hg : PG X tg g) (hb : PSs X body tb)
    (hs : ∀ x, foldedSetIterable iter X.env x = pure x := by intro _; rfl) : PS X (.For tg iter body [] pos) (tFor wi g tb) := by
  intro pins s σ H D I h
  refine wpAny_For (thn (hi pins s σ H _ I h) fun v s1 h1 => thn h1 fun itv s2 h2 => ?_) hs
  obtain ⟨it, fp, tn, J, H2, e, I2, T, st2, f2, W, ⟨m0, w0⟩, turn⟩ := h2
  subst e
  have stat : ∀ {H' : Hp}, (∀ b ∈ fp, H' b = none) → ∀ b ∈ fp, FpOk X pins H' b := fun hn b hb => ⟨hn b hb, (f2 b hb).2⟩
  refine codeAny_forLoop_any (fun n s' => ∃ i σ' H', Inv X pins σ' H' s' ∧ tn i s'.heap ∧ (∀ b ∈ fp, H' b = none) ∧ W i n σ' H') ?_ m0 ⟨0, σ, H2, I2, st2, fun b hb => (f2 b hb).1, w0⟩
  rintro n s3 ⟨i, σ3, H3, I3, st3, fr3, w3⟩
  rcases turn i n σ3 H3 w3 with ⟨stop, qn⟩ | ⟨go, N, hN, step⟩
  · refine wpAny_passesOwn hp (thn (T.done X rfl rfl rfl hc i pins s3 σ3 H3 X.xe I3 (stat fr3) st3 stop) fun r s4 ⟨hr, I4⟩ => ?_)
    subst hr
    exact wpAny_execs_nil ⟨σ3, H3, I4, qn⟩
  · refine wpAny_passesOwn hp (thn (T.item X rfl rfl rfl hc i pins s3 σ3 H3 X.xe I3 (stat fr3) st3 go) fun r s4 ⟨u, hr, h4⟩ => ?_)
    subst hr
    refine wpAny_passesOwn hp (thn h4 fun _ s5 ⟨x, H5, I5, r5, y5, st5, fr5⟩ => ?_)
    have I5' := I5.pinned (stat fr5) (T.obj _ _ st5)
    refine wpAny_passesOwn hp (thn (hg _ s5 σ3 H5 x u _ I5' r5 (step x H5 y5)) fun _ s6 ⟨σ6, H6, I6, q6⟩ => ?_)
    refine wpAny_passesOwn hp (thn (hb _ s6 σ6 H6 _ I6 q6) fun f s7 q7 => ?_)
    have again : ∀ {σ7 : St} {H7 : Hp}, Inv X (pins ++ pinsAt fp s5.heap) σ7 H7 s7 → N σ7 H7 → ∃ m, m < n ∧ ∃ i σ' H', Inv X pins σ' H' s7 ∧ tn i s7.heap ∧ (∀ b ∈ fp, H' b = none) ∧ W i m σ' H' := fun {σ7 H7} I7 n7 => by
      obtain ⟨m', hm, w7⟩ := hN σ7 H7 n7
      refine ⟨m', hm, i + 1, σ7, H7, I7.unpinned, T.keep _ _ _ st5 fun b hb o e => (I7.pin (b, o) (List.mem_append_right _ (List.mem_append_right _ (mem_pinsAt hb e)))).1, fun b hb => ?_, w7⟩
      obtain ⟨o, e, d⟩ := T.obj _ _ st5 b hb
      exact (I7.pin (b, o) (List.mem_append_right _ (List.mem_append_right _ (mem_pinsAt hb e)))).2.1
    cases f with
    | next => obtain ⟨σ7, H7, I7, n7⟩ := q7; exact again I7 n7
    | cont => obtain ⟨σ7, H7, I7, n7⟩ := q7; exact again I7 n7
    | brk => obtain ⟨σ7, H7, I7, q7⟩ := q7; exact ⟨σ7, H7, I7.unpinned, q7⟩
    | ret v => obtain ⟨x7, σ7, H7, I7, r7, q7⟩ := q7; exact ⟨x7, σ7, H7, I7.unpinned, r7, q7⟩
end
theorem for_list {K : PySem.W.Frag} {a : Addr} {xs : List V} {g : TG} {tb : TS} {D : Ends} {σ : St} {H : Hp} (Pv : Nat → St → Hp → Prop) (h0 : Pv 0 σ H) (hl : ∀ i σ H, i ≤ xs.length → Pv i σ H → SqL K H a xs)
    (hs : ∀ i x σ H, xs[i]? = some x → Pv i σ H → g x σ H fun σ2 H2 => tb { D with nx := Pv (i + 1), ct := Pv (i + 1), bk := D.nx } σ2 H2) (hd : ∀ σ H, Pv xs.length σ H → D.nx σ H) :
    ∃ W : Nat → Nat → St → Hp → Prop, (∃ m, W 0 m σ H) ∧ ∀ i m σ H, W i m σ H →
      ((Itl K a).stop i H ∧ D.nx σ H) ∨ ((Itl K a).go i H ∧ ∃ N : St → Hp → Prop, (∀ σ' H', N σ' H' → ∃ m', m' < m ∧ W (i + 1) m' σ' H') ∧ ∀ x H', (Itl K a).yld i H x H' → g x σ H' fun σ2 H2 => tb { D with nx := N, ct := N, bk := D.nx } σ2 H2) := by
  refine ⟨fun i m σ H => m = xs.length - i ∧ i ≤ xs.length ∧ Pv i σ H, ⟨xs.length, by simp, Nat.zero_le _, h0⟩, ?_⟩
  rintro i m σ H ⟨rfl, hi, p⟩
  have q := hl i σ H hi p
  by_cases hlt : i < xs.length
  · refine .inr ⟨⟨xs, xs[i], q, by simp [hlt]⟩, Pv (i + 1), fun σ' H' p' => ⟨xs.length - (i + 1), by omega, rfl, hlt, p'⟩, fun x H' y => ?_⟩
    obtain ⟨e, y⟩ := y
    subst e
    exact hs i x σ _ (y xs q) p
  · have e : i = xs.length := by omega
    subst e
    exact .inl ⟨⟨xs, q, Nat.le_refl _⟩, hd σ H p⟩
theorem for_tup {K : PySem.W.Frag} {a : Addr} {xs : List V} {g : TG} {tb : TS} {D : Ends} {σ : St} {H : Hp} (Pv : Nat → St → Hp → Prop) (h0 : Pv 0 σ H) (hl : ∀ i σ H, i ≤ xs.length → Pv i σ H → SqT K H a xs)
    (hs : ∀ i x σ H, xs[i]? = some x → Pv i σ H → g x σ H fun σ2 H2 => tb { D with nx := Pv (i + 1), ct := Pv (i + 1), bk := D.nx } σ2 H2) (hd : ∀ σ H, Pv xs.length σ H → D.nx σ H) :
    ∃ W : Nat → Nat → St → Hp → Prop, (∃ m, W 0 m σ H) ∧ ∀ i m σ H, W i m σ H →
      ((Itt K a).stop i H ∧ D.nx σ H) ∨ ((Itt K a).go i H ∧ ∃ N : St → Hp → Prop, (∀ σ' H', N σ' H' → ∃ m', m' < m ∧ W (i + 1) m' σ' H') ∧ ∀ x H', (Itt K a).yld i H x H' → g x σ H' fun σ2 H2 => tb { D with nx := N, ct := N, bk := D.nx } σ2 H2) := by
  refine ⟨fun i m σ H => m = xs.length - i ∧ i ≤ xs.length ∧ Pv i σ H, ⟨xs.length, by simp, Nat.zero_le _, h0⟩, ?_⟩
  rintro i m σ H ⟨rfl, hi, p⟩
  have q := hl i σ H hi p
  by_cases hlt : i < xs.length
  · refine .inr ⟨⟨xs, xs[i], q, by simp [hlt]⟩, Pv (i + 1), fun σ' H' p' => ⟨xs.length - (i + 1), by omega, rfl, hlt, p'⟩, fun x H' y => ?_⟩
    obtain ⟨e, y⟩ := y
    subst e
    exact hs i x σ _ (y xs q) p
  · have e : i = xs.length := by omega
    subst e
    exact .inl ⟨⟨xs, q, Nat.le_refl _⟩, hd σ H p⟩
theorem for_range {lo : Int} {n : Nat} {g : TG} {tb : TS} {D : Ends} {σ : St} {H : Hp} (Pv : Nat → St → Hp → Prop) (h0 : Pv 0 σ H)
    (hs : ∀ i σ H, i < n → Pv i σ H → g (.int (lo + i)) σ H fun σ2 H2 => tb { D with nx := Pv (i + 1), ct := Pv (i + 1), bk := D.nx } σ2 H2) (hd : ∀ σ H, Pv n σ H → D.nx σ H) :
    ∃ W : Nat → Nat → St → Hp → Prop, (∃ m, W 0 m σ H) ∧ ∀ i m σ H, W i m σ H →
      ((Itr lo n).stop i H ∧ D.nx σ H) ∨ ((Itr lo n).go i H ∧ ∃ N : St → Hp → Prop, (∀ σ' H', N σ' H' → ∃ m', m' < m ∧ W (i + 1) m' σ' H') ∧ ∀ x H', (Itr lo n).yld i H x H' → g x σ H' fun σ2 H2 => tb { D with nx := N, ct := N, bk := D.nx } σ2 H2) := by
  refine ⟨fun i m σ H => m = n - i ∧ i ≤ n ∧ Pv i σ H, ⟨n, by simp, Nat.zero_le _, h0⟩, ?_⟩
  rintro i m σ H ⟨rfl, hi, p⟩
  by_cases hlt : i < n
  · refine .inr ⟨hlt, Pv (i + 1), fun σ' H' p' => ⟨n - (i + 1), by omega, rfl, hlt, p'⟩, fun x H' y => ?_⟩
    obtain ⟨e, y⟩ := y
    subst e y
    exact hs i σ _ hlt p
  · have e : i = n := by omega
    subst e
    exact .inl ⟨Nat.le_refl _, hd σ H p⟩
end L2
namespace L2
open PySem PySem.Spec PyProof.Rows
abbrev R2 := V → V → Hp → VK → Prop
def OpR (X : Cx) (f : Value → Value → Sem Value) (r : R2) : Prop :=
  ∀ (pins : List (Addr × Obj)) (s : Shared) (σ : St) (H : Hp) (x y : V) (v u : Value) (Q : VK), Inv X pins σ H s → RelV x v → RelV y u → r x y H Q →
    wpAny (model X.prog X.w) X.A (f v u) (EP X pins σ Q) X.xe s
def UnR (X : Cx) (f : Value → Sem Value) (r : V → Hp → VK → Prop) : Prop :=
  ∀ (pins : List (Addr × Obj)) (s : Shared) (σ : St) (H : Hp) (x : V) (v : Value) (Q : VK), Inv X pins σ H s → RelV x v → r x H Q →
    wpAny (model X.prog X.w) X.A (f v) (EP X pins σ Q) X.xe s
def CallR (X : Cx) (f : Value) (r : List V → Hp → VK → Prop) : Prop :=
  ∀ (pins : List (Addr × Obj)) (s : Shared) (σ : St) (H : Hp) (xs : List V) (us : List Value) (Q : VK), Inv X pins σ H s → Vals xs us → r xs H Q →
    wpAny (model X.prog X.w) X.A (call f us) (EP X pins σ Q) X.xe s
def TruR (X : Cx) (r : V → Hp → (Bool → Hp → Prop) → Prop) : Prop :=
  ∀ (pins : List (Addr × Obj)) (s : Shared) (σ : St) (H : Hp) (x : V) (v : Value) (Q : Bool → Hp → Prop), Inv X pins σ H s → RelV x v → r x H Q →
    wpAny (model X.prog X.w) X.A (truthy v) (TP X pins σ Q) X.xe s
def tOp (r : R2) (ta tb : TE) : TE := fun σ H Q => ta σ H fun x H1 => tb σ H1 fun y H2 => r x y H2 Q
def tUn (r : V → Hp → VK → Prop) (ta : TE) : TE := fun σ H Q => ta σ H fun x H1 => r x H1 Q
def rI (C : Int → Int → Prop) (g : Int → Int → V) : R2 := fun x y H Q => ∃ i j, x = .int i ∧ y = .int j ∧ C i j ∧ Q (g i j) H
def rI0 (g : Int → Int → V) : R2 := fun x y H Q => ∃ i j, x = .int i ∧ y = .int j ∧ Q (g i j) H
def rU (g : Int → V) : V → Hp → VK → Prop := fun x H Q => ∃ i, x = .int i ∧ Q (g i) H
section
variable {X : Cx} {a b c : Expr} {ta tb tc : TE} {pos : Pos}
theorem binT (ha : PE X a ta) (hb : PE X b tb) {pins : List (Addr × Obj)} {s : Shared} {σ : St} {H : Hp} {R : V → V → Hp → Prop} (I : Inv X pins σ H s)
    (h : ta σ H fun x H1 => tb σ H1 fun y H2 => R x y H2) {Q : Value → Shared → Prop} {f : Value → Value → Sem Value}
    (hf : ∀ v u s2 x y H2, Inv X pins σ H2 s2 → RelV x v → RelV y u → R x y H2 → wpAny (model X.prog X.w) X.A (f v u) Q X.xe s2) :
    wpAny (model X.prog X.w) X.A (eval a X.env) (fun v s₁ => wpAny (model X.prog X.w) X.A (eval b X.env) (fun u s₂ => wpAny (model X.prog X.w) X.A (f v u) Q X.xe s₂) X.xe s₁) X.xe s := by
  refine thn (ha pins s σ H _ I h) fun v s1 ⟨x, H1, I1, r1, q1⟩ => ?_
  refine thn (hb pins s1 σ H1 _ I1 q1) fun u s2 ⟨y, H2, I2, r2, q2⟩ => ?_
  exact hf v u s2 x y H2 I2 r1 r2 q2
theorem pe_op {op : Operator} {r : R2} (ho : OpR X (binaryOp op) r) (ha : PE X a ta) (hb : PE X b tb) : PE X (.BinOp a op b pos) (tOp r ta tb) := by
  intro pins s σ H Q I h
  exact wpAny_BinOp (binT ha hb I h fun v u s2 x y H2 I2 rx ry q => ho pins s2 σ H2 x y v u Q I2 rx ry q)
theorem pe_un {op : UnaryOp} {r : V → Hp → VK → Prop} (ho : UnR X (unaryOp op) r) (ha : PE X a ta) : PE X (.UnaryOp op a pos) (tUn r ta) := by
  intro pins s σ H Q I h
  exact UnaryOp_ (thn (ha pins s σ H _ I h) fun v s1 ⟨x, H1, I1, r1, q1⟩ => ho pins s1 σ H1 x v Q I1 r1 q1)
theorem opI {f : Value → Value → Sem Value} {C : Int → Int → Prop} {g : Int → Int → Int}
    (rule : ∀ (i j : Int) (t u : Tok) (s : Shared) (Q : Value → Shared → Prop) (E : Value → Shared → Prop), C i j → Q (.int (g i j) s.toks) { s with toks := s.toks + 1 } → wpAny (model X.prog X.w) X.A (f (.int i t) (.int j u)) Q E s) :
    OpR X f (rI C fun i j => .int (g i j)) := by
  intro pins s σ H x y v u Q I rx ry h
  obtain ⟨i, j, rfl, rfl, hc, q⟩ := h
  obtain ⟨t, rfl⟩ := rx
  obtain ⟨t', rfl⟩ := ry
  exact rule i j t t' s _ _ hc ⟨.int (g i j), H, I.tok _, ⟨_, rfl⟩, q⟩
theorem opI0 {f : Value → Value → Sem Value} {g : Int → Int → Int}
    (rule : ∀ (i j : Int) (t u : Tok) (s : Shared) (Q : Value → Shared → Prop) (E : Value → Shared → Prop), Q (.int (g i j) s.toks) { s with toks := s.toks + 1 } → wpAny (model X.prog X.w) X.A (f (.int i t) (.int j u)) Q E s) :
    OpR X f (rI0 fun i j => .int (g i j)) := by
  intro pins s σ H x y v u Q I rx ry h
  obtain ⟨i, j, rfl, rfl, q⟩ := h
  obtain ⟨t, rfl⟩ := rx
  obtain ⟨t', rfl⟩ := ry
  exact rule i j t t' s _ _ ⟨.int (g i j), H, I.tok _, ⟨_, rfl⟩, q⟩
theorem opB0 {f : Value → Value → Sem Value} {g : Int → Int → Bool}
    (rule : ∀ (i j : Int) (t u : Tok) (s : Shared) (Q : Value → Shared → Prop) (E : Value → Shared → Prop), Q (.bool (g i j)) s → wpAny (model X.prog X.w) X.A (f (.int i t) (.int j u)) Q E s) :
    OpR X f (rI0 fun i j => .bl (g i j)) := by
  intro pins s σ H x y v u Q I rx ry h
  obtain ⟨i, j, rfl, rfl, q⟩ := h
  obtain ⟨t, rfl⟩ := rx
  obtain ⟨t', rfl⟩ := ry
  exact rule i j t t' s _ _ ⟨.bl (g i j), H, I, rfl, q⟩
def CDiv (i j : Int) : Prop := 0 < j ∧ j < 1073741824
def CPow (i j : Int) : Prop := 0 ≤ j ∧ j ≤ 1000000 ∧ i.natAbs < 2 ^ 64
def CMul (i j : Int) : Prop := (-(2 ^ 64) < i ∧ i < 2 ^ 64) ∨ (-(2 ^ 64) < j ∧ j < 2 ^ 64)
theorem CMul.ok {i j : Int} (h : CMul i j) : IntMulOk i j := by
  rcases h with ⟨h1, h2⟩ | ⟨h1, h2⟩
  · exact .of_left (intBits_le_64 h1 h2)
  · exact .of_right (intBits_le_64 h1 h2)
theorem op_add : OpR X (binaryOp .Add) (rI0 fun i j => .int (i + j)) := opI0 fun _ _ _ _ _ _ _ q => add_int q
theorem op_sub : OpR X (binaryOp .Sub) (rI0 fun i j => .int (i - j)) := opI0 fun _ _ _ _ _ _ _ q => sub_int q
theorem op_mul : OpR X (binaryOp .Mult) (rI CMul fun i j => .int (i * j)) := opI fun _ _ _ _ _ _ _ hc q => mul_int q hc.ok
theorem op_fdiv : OpR X (binaryOp .FloorDiv) (rI CDiv fun i j => .int (i / j)) := opI fun i j _ _ _ _ _ hc q => by
  have h1 : (0 : Int) < j := hc.1
  have h2 : j < 1073741824 := hc.2
  exact floordiv_int (by omega) (by rw [Int.fdiv_eq_ediv_of_nonneg i (by omega)]; exact q) (.inl (PyProof.noPylong_small (by omega)))
theorem op_mod : OpR X (binaryOp .Mod) (rI (fun _ j => 0 < j) fun i j => .int (i % j)) := opI fun i j _ _ _ _ _ hc q => by
  have h1 : (0 : Int) < j := hc
  exact mod_int' (by omega) (by rw [Int.fmod_eq_emod_of_nonneg i (by omega)]; exact q)
theorem op_pow : OpR X (binaryOp .Pow) (rI CPow fun i j => .int (i ^ j.toNat)) := opI fun _ _ _ _ _ _ _ hc q => pow_int_small hc.1 hc.2.1 hc.2.2 q
theorem unI {f : Value → Sem Value} {g : Int → Int}
    (rule : ∀ (i : Int) (t : Tok) (s : Shared) (Q : Value → Shared → Prop) (E : Value → Shared → Prop), Q (.int (g i) s.toks) { s with toks := s.toks + 1 } → wpAny (model X.prog X.w) X.A (f (.int i t)) Q E s) :
    UnR X f (rU fun i => .int (g i)) := by
  intro pins s σ H x v Q I rx h
  obtain ⟨i, rfl, q⟩ := h
  obtain ⟨t, rfl⟩ := rx
  exact rule i t s _ _ ⟨.int (g i), H, I.tok _, ⟨_, rfl⟩, q⟩
theorem un_neg : UnR X (unaryOp .USub) (rU fun i => .int (-i)) := unI fun _ _ _ _ _ q => neg_int q
end
def scal : V → V → Bool
  | .non, .non => true | .non, .int _ => true | .int _, .non => true | .non, .bl _ => true | .bl _, .non => true | .non, .str _ => true | .str _, .non => true
  | .int _, .int _ => true | .bl _, .bl _ => true | .str _, .str _ => true | .byt _, .byt _ => true
  | .int _, .str _ => true | .str _, .int _ => true | .bl _, .str _ => true | .str _, .bl _ => true
  | _, _ => false
def rEq : R2 := fun x y H Q => scal x y = true ∧ Q (.bl (decide (x = y))) H
def rNe : R2 := fun x y H Q => scal x y = true ∧ Q (.bl (!decide (x = y))) H
theorem dec_int {i j : Int} : decide (V.int i = V.int j) = (i == j) := by
  rw [Bool.eq_iff_iff]
  simp
theorem dec_bl {i j : Bool} : decide (V.bl i = V.bl j) = (i == j) := by
  rw [Bool.eq_iff_iff]
  simp
theorem dec_str {i j : Str} : decide (V.str i = V.str j) = (i == j) := by
  rw [Bool.eq_iff_iff]
  simp
theorem dec_byt {i j : Array UInt8} : decide (V.byt i = V.byt j) = (i.toList == j.toList) := by
  rw [Bool.eq_iff_iff]
  cases i
  cases j
  simp
section
variable {X : Cx} {a b c : Expr} {ta tb tc : TE} {pos : Pos}
theorem fin_bl {pins : List (Addr × Obj)} {σ : St} {H : Hp} {s : Shared} {Q : VK} {k k' : Bool} (I : Inv X pins σ H s) (q : Q (.bl k) H) (e : k = k') : EP X pins σ Q (.bool k') s := by
  subst e
  exact ⟨.bl k, H, I, rfl, q⟩
theorem op_eq : OpR X (compareOp .Eq) rEq := by
  intro pins s σ H x y v u Q I rx ry h
  obtain ⟨hs, q⟩ := h
  cases x with
  | non =>
    cases rx
    cases y with
    | non => cases ry; exact PySem.EqNone.eq_none_none (fin_bl I q (by simp))
    | bl j => cases ry; exact PySem.EqNone.eq_none_bool (fin_bl I q (by simp))
    | int j => obtain ⟨t', rfl⟩ := ry; exact PySem.EqNone.eq_none_int (fin_bl I q (by simp))
    | str j => obtain ⟨t', rfl⟩ := ry; exact PySem.EqNone.eq_none_str (fin_bl I q (by simp))
    | _ => exact absurd (show false = true from hs) Bool.false_ne_true
  | bl i =>
    cases rx
    cases y with
    | non => cases ry; exact PySem.EqNone.eq_bool_none (fin_bl I q (by simp))
    | bl j => cases ry; exact eq_bool (fin_bl I q dec_bl)
    | str j => obtain ⟨t', rfl⟩ := ry; exact PySem.EqMixed.eq_bool_str (fin_bl I q (by simp))
    | _ => exact absurd (show false = true from hs) Bool.false_ne_true
  | int i =>
    obtain ⟨t, rfl⟩ := rx
    cases y with
    | non => cases ry; exact PySem.EqNone.eq_int_none (fin_bl I q (by simp))
    | int j => obtain ⟨t', rfl⟩ := ry; exact eq_int (fin_bl I q dec_int)
    | str j => obtain ⟨t', rfl⟩ := ry; exact PySem.EqMixed.eq_int_str (fin_bl I q (by simp))
    | _ => exact absurd (show false = true from hs) Bool.false_ne_true
  | str i =>
    obtain ⟨t, rfl⟩ := rx
    cases y with
    | non => cases ry; exact PySem.EqNone.eq_str_none (fin_bl I q (by simp))
    | bl j => cases ry; exact PySem.EqMixed.eq_str_bool (fin_bl I q (by simp))
    | int j => obtain ⟨t', rfl⟩ := ry; exact PySem.EqMixed.eq_str_int (fin_bl I q (by simp))
    | str j => obtain ⟨t', rfl⟩ := ry; exact eq_str (fin_bl I q dec_str)
    | _ => exact absurd (show false = true from hs) Bool.false_ne_true
  | byt i =>
    obtain ⟨t, rfl⟩ := rx
    cases y with
    | byt j => obtain ⟨t', rfl⟩ := ry; exact PySem.W.eq_bytes (fin_bl I q dec_byt)
    | _ => exact absurd (show false = true from hs) Bool.false_ne_true
  | _ => cases y <;> exact absurd (show false = true from hs) Bool.false_ne_true
theorem op_ne : OpR X (compareOp .NotEq) rNe := by
  intro pins s σ H x y v u Q I rx ry h
  obtain ⟨hs, q⟩ := h
  cases x with
  | non =>
    cases rx
    cases y with
    | non => cases ry; exact PySem.EqNone.ne_none_none (fin_bl I q (by simp))
    | bl j => cases ry; exact PySem.EqNone.ne_none_bool (fin_bl I q (by simp))
    | int j => obtain ⟨t', rfl⟩ := ry; exact PySem.EqNone.ne_none_int (fin_bl I q (by simp))
    | str j => obtain ⟨t', rfl⟩ := ry; exact PySem.EqNone.ne_none_str (fin_bl I q (by simp))
    | _ => exact absurd (show false = true from hs) Bool.false_ne_true
  | bl i =>
    cases rx
    cases y with
    | non => cases ry; exact PySem.EqNone.ne_bool_none (fin_bl I q (by simp))
    | bl j => cases ry; exact ne_bool (fin_bl I q (congrArg not dec_bl))
    | str j => obtain ⟨t', rfl⟩ := ry; exact PySem.EqMixed.ne_bool_str (fin_bl I q (by simp))
    | _ => exact absurd (show false = true from hs) Bool.false_ne_true
  | int i =>
    obtain ⟨t, rfl⟩ := rx
    cases y with
    | non => cases ry; exact PySem.EqNone.ne_int_none (fin_bl I q (by simp))
    | int j => obtain ⟨t', rfl⟩ := ry; exact ne_int (fin_bl I q (congrArg not dec_int))
    | str j => obtain ⟨t', rfl⟩ := ry; exact PySem.EqMixed.ne_int_str (fin_bl I q (by simp))
    | _ => exact absurd (show false = true from hs) Bool.false_ne_true
  | str i =>
    obtain ⟨t, rfl⟩ := rx
    cases y with
    | non => cases ry; exact PySem.EqNone.ne_str_none (fin_bl I q (by simp))
    | bl j => cases ry; exact PySem.EqMixed.ne_str_bool (fin_bl I q (by simp))
    | int j => obtain ⟨t', rfl⟩ := ry; exact PySem.EqMixed.ne_str_int (fin_bl I q (by simp))
    | str j => obtain ⟨t', rfl⟩ := ry; exact ne_str (fin_bl I q (congrArg not dec_str))
    | _ => exact absurd (show false = true from hs) Bool.false_ne_true
  | byt i =>
    obtain ⟨t, rfl⟩ := rx
    cases y with
    | byt j => obtain ⟨t', rfl⟩ := ry; exact PySem.W.ne_bytes (fin_bl I q (congrArg not dec_byt))
    | _ => exact absurd (show false = true from hs) Bool.false_ne_true
  | _ => cases y <;> exact absurd (show false = true from hs) Bool.false_ne_true
theorem op_lt : OpR X (compareOp .Lt) (rI0 fun i j => .bl (decide (i < j))) := opB0 fun _ _ _ _ _ _ _ q => lt_int q
theorem op_le : OpR X (compareOp .LtE) (rI0 fun i j => .bl (decide (i ≤ j))) := opB0 fun _ _ _ _ _ _ _ q => le_int q
theorem op_gt : OpR X (compareOp .Gt) (rI0 fun i j => .bl (decide (j < i))) := opB0 fun _ _ _ _ _ _ _ q => gt_int q
theorem nomark (b : Expr) {op : CmpOp} (h : op ≠ .In := by decide) (h2 : op ≠ .NotIn := by decide) : behindInMarks op b = false := by
  have e1 : (op == CmpOp.In) = false := by cases op <;> first | rfl | exact absurd rfl h
  have e2 : (op == CmpOp.NotIn) = false := by cases op <;> first | rfl | exact absurd rfl h2
  cases b <;> simp [behindInMarks, e1, e2]
theorem pe_cmpR {op : CmpOp} {r : R2} (ho : OpR X (compareOp op) r) (ha : PE X a ta) (hb : PE X b tb) (hm : behindInMarks op b = false) : PE X (.Compare a [op] [b] pos) (tOp r ta tb) := by
  intro pins s σ H Q I h
  exact wpAny_Compare1 (binT ha hb I h fun v u s2 x y H2 I2 rx ry q => ho pins s2 σ H2 x y v u Q I2 rx ry q) hm
def tTest (t : TE) : TT := fun σ H Q => t σ H fun x H' => ∃ k, x = .bl k ∧ Q k H'
theorem pt_cmpR {op : CmpOp} {r : R2} (ho : OpR X (compareOp op) r) (ha : PE X a ta) (hb : PE X b tb) (hm : behindInMarks op b = false) : PT X (.Compare a [op] [b] pos) (tTest (tOp r ta tb)) := by
  intro pins s σ H Q I h
  refine wpAny_isTrue_Compare1 (thn (ha pins s σ H _ I h) fun v s1 ⟨x, H1, I1, r1, q1⟩ => thn (hb pins s1 σ H1 _ I1 q1) fun u s2 ⟨y, H2, I2, r2, q2⟩ =>
    thn (ho pins s2 σ H2 x y v u _ I2 r1 r2 q2) fun c s3 ⟨z, H3, I3, r3, k, e, q3⟩ => ?_) hm
  subst e
  cases r3
  exact wpAny_truthy_bool ⟨H3, I3, q3⟩
def TruV (K : PySem.W.Frag) (x : V) (H : Hp) (k : Bool) : Prop :=
  match x with
  | .non => k = false
  | .bl b => k = b
  | .int i => k = (i != 0)
  | .str y => y.length ≤ sizeLine ∧ k = ((y.length : Int) != 0)
  | .byt y => y.size ≤ sizeLine ∧ k = ((y.size : Int) != 0)
  | .ref p => (∃ xs, SqL K H p xs ∧ k = !xs.isEmpty) ∨ (∃ xs, SqT K H p xs ∧ k = !xs.isEmpty) ∨ ∃ kvs, H p = some (.dK kvs) ∧ k = !kvs.isEmpty
  | _ => False
theorem isEmpty_kv {κ : Type} {kvs : List (κ × V)} {vs : List (κ × Value)} (r : KV kvs vs) : (!vs.isEmpty) = !kvs.isEmpty := by
  cases r <;> rfl
theorem isEmpty_of {xs : List V} {its : List Value} (r : Vals xs its) : (!its.toArray.isEmpty) = !xs.isEmpty := by
  cases r <;> simp
theorem line63 : (sizeLine : Nat) < 2 ^ 63 := by rw [sizeLine_eq]; decide
theorem tru_ok : TruR X (fun x H Q => ∃ k, TruV X.K x H k ∧ Q k H) := by
  intro pins s σ H x v Q I rx h
  obtain ⟨k, e, q⟩ := h
  have hl := line63
  have hs : sizeLine = 16777216 := sizeLine_eq
  cases x with
  | non =>
    cases rx
    have e' : k = false := e
    subst e'
    exact truthy_none ⟨H, I, q⟩
  | bl b =>
    cases rx
    have e' : k = b := e
    subst e'
    exact wpAny_truthy_bool ⟨H, I, q⟩
  | int i =>
    obtain ⟨t, rfl⟩ := rx
    have e' : k = (i != 0) := e
    subst e'
    exact PySem.P.truthy_int ⟨H, I, q⟩
  | str y =>
    obtain ⟨t, rfl⟩ := rx
    obtain ⟨hy, e'⟩ : y.length ≤ sizeLine ∧ k = ((y.length : Int) != 0) := e
    subst e'
    exact PySem.P.truthy_str (by omega) ⟨H, I.tok _, q⟩
  | byt y =>
    obtain ⟨t, rfl⟩ := rx
    obtain ⟨hy, e'⟩ : y.size ≤ sizeLine ∧ k = ((y.size : Int) != 0) := e
    subst e'
    exact PySem.W.truthy_bytes (by omega) ⟨H, I.tok _, q⟩
  | ref p =>
    cases rx
    have e' : (∃ xs, SqL X.K H p xs ∧ k = !xs.isEmpty) ∨ (∃ xs, SqT X.K H p xs ∧ k = !xs.isEmpty) ∨ ∃ kvs, H p = some (.dK kvs) ∧ k = !kvs.isEmpty := e
    rcases e' with ⟨xs, hx, e'⟩ | ⟨xs, hx, e'⟩ | ⟨kvs, hx, e'⟩
    · subst e'
      obtain ⟨its, r, pl, hz⟩ := I.list hx
      have hlen := r.length
      exact wpAny_truthy_list pl.isList (by simp only [List.size_toArray]; omega) ⟨H, I.tok _, by rw [isEmpty_of r]; exact q⟩
    · subst e'
      obtain ⟨its, r, pl, hz⟩ := I.tuple hx
      have hlen := r.length
      exact truthy_tuple pl (by simp only [List.size_toArray]; omega) ⟨H, I.tok _, by rw [isEmpty_of r]; exact q⟩
    · subst e'
      obtain ⟨hz, hS, vs, r, m⟩ : kvs.length ≤ sizeLine ∧ (p == sysModules) = false ∧ ∃ vs, KV kvs vs ∧ s.heap.DictOf (mixKind X.prog X.w) p vs := I.hok p _ hx
      have hlen : kvs.length = vs.length := Paired.length r
      exact wpAny_truthy_dict hS m (by omega) ⟨H, I.tok _, by rw [isEmpty_kv r]; exact q⟩
  | _ => exact (show False from e).elim
theorem pt_truth (ha : PE X a ta) (he : ∀ whole, isTrue a X.env whole = (do let v ← whole; standAt a.pos; holding [v] (truthy v))) :
    PT X a (fun σ H Q => ta σ H fun x H' => ∃ k, TruV X.K x H' k ∧ Q k H') := by
  intro pins s σ H Q I h
  exact isTrue_plain (thn (ha pins s σ H _ I h) fun v s1 ⟨x, H1, I1, r1, q1⟩ => tru_ok pins s1 σ H1 x v Q I1 r1 q1) (he _)
theorem op_add_str : OpR X (binaryOp .Add) (fun x y H Q => ∃ i j, x = .str i ∧ y = .str j ∧ i.length + j.length ≤ sizeLine ∧ Q (.str (i ++ j)) H) := by
  intro pins s σ H x y v u Q I rx ry h
  obtain ⟨i, j, rfl, rfl, hz, q⟩ := h
  obtain ⟨t, rfl⟩ := rx
  obtain ⟨t', rfl⟩ := ry
  exact add_str (fun t' tk => ⟨.str (i ++ j), H, I.tok _, ⟨_, rfl⟩, q⟩) hz
theorem vals1 {x : V} {us : List Value} (r : Vals [x] us) : ∃ u, us = [u] ∧ RelV x u := by
  cases r with
  | cons r1 r2 => cases r2; exact ⟨_, rfl, r1⟩
theorem vals2 {x y : V} {us : List Value} (r : Vals [x, y] us) : ∃ u w', us = [u, w'] ∧ RelV x u ∧ RelV y w' := by
  cases r with
  | cons r1 r2 =>
    cases r2 with
    | cons r3 r4 => cases r4; exact ⟨_, _, rfl, r1, r3⟩
theorem call_max2 (hc : X.calm = true) : CallR X (.builtin "max") (fun xs H Q => ∃ i j, xs = [.int i, .int j] ∧ Q (.int (if j > i then j else i)) H) := by
  intro pins s σ H xs us Q I r h
  obtain ⟨i, j, rfl, q⟩ := h
  obtain ⟨u, w', rfl, ⟨t, rfl⟩, ⟨t', rfl⟩⟩ := vals2 r
  refine max_two_ints (I.ok.hd hc) fun h' tk k => ⟨_, H, I.kept k, ?_, q⟩
  by_cases hj : j > i
  · rw [if_pos hj, if_pos hj]; exact ⟨_, rfl⟩
  · rw [if_neg hj, if_neg hj]; exact ⟨_, rfl⟩
theorem call_min2 (hc : X.calm = true) : CallR X (.builtin "min") (fun xs H Q => ∃ i j, xs = [.int i, .int j] ∧ Q (.int (if j < i then j else i)) H) := by
  intro pins s σ H xs us Q I r h
  obtain ⟨i, j, rfl, q⟩ := h
  obtain ⟨u, w', rfl, ⟨t, rfl⟩, ⟨t', rfl⟩⟩ := vals2 r
  refine min_two_ints (I.ok.hd hc) fun h' tk k => ⟨_, H, I.kept k, ?_, q⟩
  by_cases hj : j < i
  · rw [if_pos hj, if_pos hj]; exact ⟨_, rfl⟩
  · rw [if_neg hj, if_neg hj]; exact ⟨_, rfl⟩
theorem call_int1 : CallR X (.type "int") (fun xs H Q => (∃ i, xs = [.int i] ∧ Q (.int i) H) ∨ ∃ k, xs = [.bl k] ∧ Q (.int (if k then 1 else 0)) H) := by
  intro pins s σ H xs us Q I r h
  rcases h with ⟨i, rfl, q⟩ | ⟨k, rfl, q⟩
  · obtain ⟨u, rfl, t, rfl⟩ := vals1 r
    exact call_int_int ⟨.int i, H, I, ⟨_, rfl⟩, q⟩
  · obtain ⟨u, rfl, r1⟩ := vals1 r
    cases r1
    exact call_int_bool ⟨.int (if k then 1 else 0), H, I.tok _, ⟨_, rfl⟩, q⟩
theorem call_str_int : CallR X (.type "str") (fun xs H Q => ∃ i, xs = [.int i] ∧ i.natAbs.log2 < 1920 ∧ Q (.str (toString i)) H) := by
  intro pins s σ H xs us Q I r h
  obtain ⟨i, rfl, hz, q⟩ := h
  obtain ⟨u, rfl, t, rfl⟩ := vals1 r
  exact PySem.P.str_of_int hz ⟨.str _, H, I.tok _, ⟨_, rfl⟩, q⟩
end
end L2
namespace L2
open PySem PySem.Spec PyProof.Rows
structure ObjM (h : Heap) (x dx C : Addr) (mA : Str → Option Value) : Prop where
  obj : h.get? x = some (PySem.W.instObj C dx)
  ns : h.Ns1 dx mA
  ne : dx ≠ x
theorem lookIn_ns {h : Heap} {dx : Addr} {mA : Str → Option Value} (n : h.Ns1 dx mA) : ∃ od, h.get? dx = some od ∧ ∀ name, PySem.W.lookIn name od = some (mA name) := by
  obtain ⟨o, es, ep, ho, hd, hk, _, hm⟩ := n
  refine ⟨o, ho, fun name => ?_⟩
  have e := hm name
  unfold nsFind findBy at e
  rw [← Array.find?_toList] at e
  unfold PySem.W.lookIn
  rw [hd]
  dsimp only
  split
  · rename_i y q
    rw [q] at e
    exact congrArg some e
  · rename_i q
    rw [q] at e
    have a : es.toList.any (·.refKey) = false := by
      rw [List.any_eq_false]
      intro y hy
      obtain ⟨z, t, hkey⟩ := hk y (Array.mem_toList_iff.mp hy)
      simp [DictEntry.refKey, hkey]
    have a' : ¬ es.toList.any (·.refKey) = true := by rw [a]; exact Bool.false_ne_true
    rw [if_neg a']
    exact congrArg some e
theorem ObjM.look {h : Heap} {x dx C : Addr} {mA : Str → Option Value} (I : ObjM h x dx C mA) : ∃ od, PySem.W.InstAt h x (PySem.W.instObj C dx) C (some od) ∧ ∀ name, PySem.W.lookIn name od = some (mA name) :=
  let ⟨od, ho, hl⟩ := lookIn_ns I.ns
  ⟨od, ⟨I.obj, rfl, rfl, ho⟩, hl⟩
section
variable {prog : Program} {w : World} {A : Around} {E : Value → Shared → Prop} {s : Shared} {K : PySem.W.Frag} {x dx C f : Addr} {mA : Str → Option Value} {name : Str} {v : Value}
end
section
variable {P : Program} {w : World} {H H' : Hp} {h h' : Heap} {a C dx : Addr} {fs fs' : List (Str × V)}
theorem ins_get (hok : HOk P w H h) (e : H a = some (.ins C dx fs)) : ∃ mA, ObjM h a dx C mA ∧ (∀ f, RelO (fs.lookup f) (mA f)) ∧ PySem.Within mA (fs.map (·.1)) ∧ fs.length ≤ 1000 ∧ H dx = some (.own a) := by
  obtain ⟨d, z, ne, ob, mA, n, r, q⟩ := (show ObjOk P w H h a (.ins C dx fs) from hok a _ e)
  exact ⟨mA, ⟨ob, n, ne⟩, r, q, z, d⟩
end
structure Cls (K : PySem.W.Frag) (C : Addr) : Prop where
  pg : PySem.W.plainGet K C Str.empty = true
  hd : PySem.W.hasDictIn K C = true
  po : PySem.W.plainOver K C = true
  sa : PySem.W.findIn K (.ref C) "__setattr__" = some (some (.builtin "object.__setattr__"))
theorem Cls.get {K : PySem.W.Frag} {C : Addr} (c : Cls K C) (f : Str) : PySem.W.plainGet K C f = true := c.pg
structure Con (K : PySem.W.Frag) (C : Addr) (f : Str) (v : V) (u : Value) : Prop where
  at_ : PySem.W.findIn K (.ref C) f = some (some u)
  rel : RelV v u
  get : PySem.W.specialIn K u "__get__" = some none
  cp : PySem.W.copiedNames.contains f = false
structure Meth (K : PySem.W.Frag) (C : Addr) (m : Str) (f : Addr) : Prop where
  at_ : PySem.W.findIn K (.ref C) m = some (some (.ref f))
  fn : PySem.W.isFn K (.ref f) = true
  kp : PySem.W.keepIn K (.ref f) = true
section
variable {X : Cx} {pins : List (Addr × Obj)} {σ : St} {H : Hp} {s : Shared} {a C dx : Addr} {fs : List (Str × V)} {f : Str} {v : V} {A : Around} {E : Value → Shared → Prop}
end
section
variable {X : Cx} {o e value : Expr} {f : Str} {pos pos' tpos : Pos} {ta tv : TE}
end
section
variable {X : Cx} {pins : List (Addr × Obj)} {σ : St} {H : Hp} {s : Shared} {A : Around} {E : Value → Shared → Prop} {Q : Value → Shared → Prop} {c : Value} {b : Bool}
inductive TyOf (K : PySem.W.Frag) (H : Hp) : V → Value → Prop where
  | non : TyOf K H .non (.type "NoneType")
  | bl (x : Bool) : TyOf K H (.bl x) (.type "bool")
  | int (i : Int) : TyOf K H (.int i) (.type "int")
  | str (x : Str) : TyOf K H (.str x) (.type "str")
  | flt (x : UInt64) : TyOf K H (.flt x) (.type "float")
  | lst {a : Addr} {xs : List V} (e : H a = some (.lst xs)) : TyOf K H (.ref a) (.type "list")
  | frz {a : Addr} {o : Obj} {xs : List V} (e : H a = some (.frz o (.lst xs))) : TyOf K H (.ref a) (.type "list")
  | tup {a : Addr} {xs : List V} (e : H a = some (.tup xs)) : TyOf K H (.ref a) (.type "tuple")
  | dK {a : Addr} {kvs : List (Key × V)} (e : H a = some (.dK kvs)) : TyOf K H (.ref a) (.type "dict")
  | dT {a : Addr} {kvs : List (List Key × V)} (e : H a = some (.dT kvs)) : TyOf K H (.ref a) (.type "dict")
  | ins {a C dx : Addr} {fs : List (Str × V)} (e : H a = some (.ins C dx fs)) (cl : Cls K C) (ha : PySem.W.findIn K (.ref C) "__class__" = some (some (.builtin "object.__class__")))
      (hn : PySem.W.specialIn K (.builtin "object.__class__") "__get__" = some (some (.builtin "getset_descriptor.__get__"))) (htk : PySem.W.takesIn K (.builtin "object.__class__") = some true)
      (hm : PySem.W.mroIn K C (.type "object") = some true) : TyOf K H (.ref a) (.ref C)
theorem isinst_ok {x : V} {u t : Value} (I : Inv X pins σ H s) (rx : RelV x u) (ty : TyOf X.K H x t) (e : PySem.W.kitOne X.K t c = some b) (h : ∀ tk, Q (.bool b) { s with toks := tk }) :
    wpAny (model X.prog X.w) A (call (.builtin "isinstance") [u, c]) Q E s := by
  cases ty with
  | non => cases (show u = Value.none from rx); exact PySem.W.kia_one PySem.W.kitx_none I.kIn True.intro e (fun z => nomatch z) h
  | bl y => cases (show u = Value.bool y from rx); exact PySem.W.kia_one PySem.W.kitx_bool I.kIn True.intro e (fun z => nomatch z) h
  | int i => obtain ⟨t, q⟩ := (show ∃ t, u = Value.int i t from rx); cases q; exact PySem.W.kia_one PySem.W.kitx_int I.kIn True.intro e (fun z => nomatch z) h
  | str y => obtain ⟨t, q⟩ := (show ∃ t, u = Value.str y t from rx); cases q; exact PySem.W.kia_one PySem.W.kitx_str I.kIn True.intro e (fun z => nomatch z) h
  | flt y => obtain ⟨t, q⟩ := (show ∃ t, u = Value.float y t from rx); cases q; exact PySem.W.kia_one PySem.W.kitx_float I.kIn True.intro e (fun z => nomatch z) h
  | @lst a xs ea =>
    cases (show u = Value.ref a from rx)
    obtain ⟨_, _, n, _, h1⟩ := (show ObjOk X.prog X.w H s.heap a (.lst xs) from I.hok a _ ea)
    exact PySem.W.kia_one PySem.W.kitx_list I.kIn ⟨_, h1, rfl⟩ e (fun z => nomatch z) h
  | @frz a ob xs ea =>
    cases (show u = Value.ref a from rx)
    obtain ⟨_, _, _, n, _, h1⟩ := (show ObjOk X.prog X.w H s.heap a (.frz ob (.lst xs)) from I.hok a _ ea)
    exact PySem.W.kia_one PySem.W.kitx_list I.kIn ⟨_, h1, rfl⟩ e (fun z => nomatch z) h
  | @tup a xs ea =>
    cases (show u = Value.ref a from rx)
    obtain ⟨_, _, _, p⟩ := (show ObjOk X.prog X.w H s.heap a (.tup xs) from I.hok a _ ea)
    obtain ⟨o, h1, h2, _⟩ := p
    exact PySem.W.kia_one PySem.W.kitx_tuple I.kIn ⟨o, h1, h2⟩ e (fun z => nomatch z) h
  | @dK a kvs ea =>
    cases (show u = Value.ref a from rx)
    obtain ⟨_, _, vs, _, p⟩ := (show ObjOk X.prog X.w H s.heap a (.dK kvs) from I.hok a _ ea)
    obtain ⟨o, es, ep, h1, h2, _⟩ := p
    exact PySem.W.kia_one PySem.W.kitx_dict I.kIn ⟨o, h1, h2.1⟩ e (fun z => nomatch z) h
  | @dT a kvs ea =>
    cases (show u = Value.ref a from rx)
    obtain ⟨_, _, xs, _, o, es, ep, h1, h2, _⟩ := (show ObjOk X.prog X.w H s.heap a (.dT kvs) from I.hok a _ ea)
    exact PySem.W.kia_one PySem.W.kitx_dict I.kIn ⟨o, h1, h2.1⟩ e (fun z => nomatch z) h
  | @ins a C dx fs ea cl ha hn htk hm =>
    cases (show u = Value.ref a from rx)
    obtain ⟨mA, O, _⟩ := ins_get I.hok ea
    obtain ⟨od, J, _⟩ := O.look
    exact PySem.W.kia_one (PySem.W.kitx_own (cl.get _) cl.hd ha hn htk hm) I.kIn J e (fun z => nomatch z) h
end
end L2
namespace L2
open PySem PySem.Spec PyProof.Rows
structure Room (k : Nat) (A : Around) : Prop where
  hd : A.handled = none
  dp : A.depth + 3 * k + 5 < recursionLimit
  un : A.units + 16 * k + 200 < cLine
theorem Room.mono {j k : Nat} {A : Around} (r : Room k A) (h : j ≤ k) : Room j A := ⟨r.hd, by have := r.dp; omega, by have := r.un; omega⟩
theorem Room.deeper {k : Nat} {A : Around} (r : Room (k + 1) A) (env : Env) : Room k (A.deeper env) :=
  ⟨r.hd, by have := r.dp; show A.depth + 1 + 3 * k + 5 < _; omega, by have := r.un; show A.units + 3 + 16 * k + 200 < _; omega⟩
theorem Room.depth {k : Nat} {A : Around} (r : Room k A) : A.depth < recursionLimit := by have := r.dp; omega
theorem Room.units {k : Nat} {A : Around} (r : Room k A) : A.units + 64 < cLine := by have := r.un; omega
def tNil : TA := fun _ H Q => Q [] H
def tCons (ta : TE) (tr : TA) : TA := fun σ H Q => ta σ H fun x H1 => tr σ H1 fun xs H2 => Q (x :: xs) H2
section
variable {X : Cx} {e : Expr} {es : List Expr} {te : TE} {t : TA} {pos : Pos}
theorem pa_nil : PA X [] tNil := fun _ _ _ _ H Q I h => Calls.spliced_nil ⟨[], H, I, .nil, h⟩
theorem pa_cons (ha : PE X e te) (hr : PA X es t) (hs : starEach (e :: es) X.env = (false, eval e X.env) :: starEach es X.env := by rfl) : PA X (e :: es) (tCons te t) := by
  intro pos pins s σ H Q I h
  rw [hs]
  show wpAny _ _ (spliced ((false, eval e X.env) :: backTo pos (starEach es X.env))) _ _ s
  refine Calls.spliced_cons (thn (ha pins s σ H _ I h) fun u s1 ⟨x, H1, I1, r1, q1⟩ => ?_)
  exact thn (hr pos pins s1 σ H1 _ I1 q1) fun us s2 ⟨xs, H2, I2, r2, q2⟩ => ⟨x :: xs, H2, I2, .cons r1 r2, q2⟩
def tTup (t : TA) : TE := fun σ H Q => t σ H fun xs H1 => xs.length ≤ sizeLine ∧ ∀ p, H1 p = none → Q (.ref p) (upd H1 p (.tup xs))
def tLst (t : TA) : TE := fun σ H Q => t σ H fun xs H1 => xs.length ≤ sizeLine ∧ ∀ p, H1 p = none → Q (.ref p) (upd H1 p (.lst xs))
theorem pe_tup {x1} (h : PA X es t) : PE X (.Tuple es x1 pos) (tTup t) := by
  intro pins s σ H Q I hq
  refine wpAny_Tuple_spliced (thn (h pos pins s σ H _ I hq) fun us s1 ⟨xs, H1, I1, r, z, q⟩ => ⟨by rw [← r.length]; exact z, ?_⟩)
  have hf : H1 s1.heap.objs.size = none := I1.hok.fresh (Nat.le_refl _)
  refine ⟨.ref s1.heap.objs.size, upd H1 s1.heap.objs.size (.tup xs), I1.laid (t' := s1.toks) (fun b u e => Heap.get?_push_of_some _ e) (Nat.le_refl _) ?_, rfl, q _ hf⟩
  exact ⟨z, us, r, ⟨_, Heap.get?_push_size _ rfl, rfl, _, rfl⟩⟩
theorem pe_lst (h : PA X es t) : PE X (.List es pos) (tLst t) := by
  intro pins s σ H Q I hq
  refine wpAny_List_spliced (thn (h pos pins s σ H _ I hq) fun us s1 ⟨xs, H1, I1, r, z, q⟩ => ⟨by rw [← r.length]; exact z, ?_⟩)
  have hf : H1 s1.heap.objs.size = none := I1.hok.fresh (Nat.le_refl _)
  refine ⟨.ref s1.heap.objs.size, upd H1 s1.heap.objs.size (.lst xs), I1.laid (t' := s1.toks) (fun b u e => Heap.get?_push_of_some _ e) (Nat.le_refl _) ?_, rfl, q _ hf⟩
  exact ⟨z, us, 0, r, Heap.get?_push_size _ rfl⟩
end
abbrev Sp := List V → Hp → VK → XK → Prop
abbrev CXT := List Env → Hp → Shared → XK → Value → Shared → Prop
structure Env0 (P : Program) (w : World) (K : PySem.W.Frag) (mg : Str → Option Value) (base : Heap) (A : Around) (outer : List Env) (s : Shared) (H : Hp) : Prop where
  frames : A.frames = some outer
  mod : Mod K mg base
  bs : ∀ b o, base.get? b = some o → s.heap.get? b = some o ∧ H b = none
  bsz : base.objs.size ≤ s.heap.objs.size
  funs : s.heap.FunFrames base outer
  frf : ∀ b ∈ frs outer, H b = none
  hok : HOk P w H s.heap
  bare : AllBare s.gens
def CE (outer : List Env) (P : Program) (w : World) (H : Hp) (s : Shared) (Q : VK) (u : Value) (s' : Shared) : Prop :=
  ∃ v H', s'.os = s.os ∧ AllBare s'.gens ∧ Un (frs outer) [] H H' s.heap s'.heap ∧ HOk P w H' s'.heap ∧ RelV v u ∧ Q v H'
def CR (CX : CXT) (outer : List Env) (P : Program) (w : World) (H : Hp) (s : Shared) (Q : VK) (E : XK) (r : Result) (s' : Shared) : Prop :=
  match r with
  | .ok (.ret u) => CE outer P w H s Q u s'
  | .ok _ => False
  | .error e => CX outer H s E e s'
structure FnOk (P : Program) (w : World) (K : PySem.W.Frag) (mg : Str → Option Value) (base : Heap) (CX : CXT) (k : Nat) (f : Addr) (fd : FuncData) (ps : List Str) (sp : Sp) : Prop where
  len : ∀ vs H Q E, sp vs H Q E → vs.length = ps.length
  run : ∀ (A : Around) (outer : List Env) (s : Shared) (H : Hp) (args : Args) (us : List Value) (vs : List V) (Q : VK) (E : XK), Room k A → Env0 P w K mg base A outer s H → BindsTo s fd args (ps.zip us) → Vals vs us → sp vs H Q E →
    codeAny (model P w) A (.call (.ref f) args) (CR CX outer P w H s Q E) s
section
variable {X : Cx} {pins : List (Addr × Obj)} {σ : St} {H : Hp} {s s' : Shared}
theorem Inv.env0 (I : Inv X pins σ H s) : Env0 X.prog X.w X.K X.mg X.base X.A X.stack s H :=
  ⟨I.ok.frames, I.ok.mod, I.bs, Nat.le_trans I.ok.bsz I.sz, I.stack, I.stkFree, I.hok, I.bare⟩
theorem Inv.after {Q : VK} {u : Value} (I : Inv X pins σ H s) (h : CE X.stack X.prog X.w H s Q u s') : EP X pins σ Q u s' := by
  obtain ⟨v, H', os, bare, un, hok, r, q⟩ := h
  obtain ⟨hh, g, d, t, os'⟩ := s'
  obtain rfl : os' = s.os := os
  exact ⟨v, H', I.call (h' := hh) (g' := g) (d' := d) (t' := t) (ch := []) un hok bare (fun b z => absurd z (by simp)), r, q⟩
end
def tCall (sp : Sp) (dvs : List V) (E : XK) (t : TA) : TE := fun σ H Q => t σ H fun vs H1 => sp (vs ++ dvs) H1 Q E
def Binds (K : PySem.W.Frag) (fd : FuncData) (ps : List Str) (ds : List Value) : Prop :=
  ∀ (s : Shared) (us : List Value), K.In s.heap → (us ++ ds).length = ps.length → BindsTo s fd ⟨us, []⟩ (ps.zip (us ++ ds))
theorem Binds.all {K : PySem.W.Frag} {fd : FuncData} {ps : List Str} (h : ∀ us : List Value, us.length = ps.length → bindArgs fd ⟨us, []⟩ = pure (ps.zip us)) : Binds K fd ps [] := fun s us _ hl => by
  rw [List.append_nil] at hl ⊢
  exact .of_eq (h us hl)
def Passes (CX : CXT) (X : Cx) (E : XK) : Prop := ∀ (pins : List (Addr × Obj)) (σ : St) (H : Hp) (s : Shared) (e : Value) (s' : Shared), Inv X pins σ H s → CX X.stack H s E e s' → X.xe e s'
section
variable {X : Cx} {CX : CXT} {k : Nat} {f C : Addr} {fd : FuncData} {ps : List Str} {sp : Sp} {dvs : List V} {ds : List Value} {E : XK} {x m : Str} {p pos apos : Pos} {e o : Expr} {es : List Expr} {ta : TE} {t : TA}
theorem run_fn {pins : List (Addr × Obj)} {σ : St} {H : Hp} {s : Shared} {Q : VK} {us : List Value} {vs : List V} (F : FnOk X.prog X.w X.K X.mg X.base CX k f fd ps sp) (hr : Room k X.A) (hb : Binds X.K fd ps ds) (hd : Vals dvs ds) (hx : Passes CX X E)
    (I : Inv X pins σ H s) (r : Vals vs us) (h : sp (vs ++ dvs) H Q E) : wpAny (model X.prog X.w) X.A (call (.ref f) us) (EP X pins σ Q) X.xe s := by
  have r2 : Vals (vs ++ dvs) (us ++ ds) := r.append hd
  have hl : (us ++ ds).length = ps.length := by rw [← r2.length]; exact F.len _ _ _ _ h
  refine wpAny_call (codeAny_mono (F.run X.A X.stack s H ⟨us, []⟩ (us ++ ds) (vs ++ dvs) Q E hr I.env0 (hb s us I.kIn hl) r2 h) fun r s' hq => ?_)
  cases r with
  | error e => exact hx pins σ H s e s' I hq
  | ok fl =>
    cases fl with
    | ret u => exact I.after hq
    | next => exact False.elim hq
    | brk => exact False.elim hq
    | cont => exact False.elim hq
theorem pe_call (F : FnOk X.prog X.w X.K X.mg X.base CX k f fd ps sp) (hr : Room k X.A) (hg : Gl X x) (hm : X.mg x = some (.ref f)) (hk : PySem.W.keepIn X.K (.ref f) = true) (hb : Binds X.K fd ps ds) (hd : Vals dvs ds) (hx : Passes CX X E)
    (ha : PA X (e :: es) t) (hdb : (x == ("__debug__" : Str)) = false := by decide) (he : starEach (e :: es) X.env = (false, eval e X.env) :: starEach es X.env := by rfl) (hpl : (backTo pos (starEach es X.env)).any (·.1) = false := by rfl) :
    PE X (.Call (.Name x p) (e :: es) [] pos) (tCall sp dvs E t) := by
  intro pins s σ H Q I h
  refine wpAny_Call_Name_kw (ld_glob I hg hm ?_ hdb)
  refine PySem.W.callWith_K (h₀ := X.base) I.ok.mod.kin hk (thn (ha pos pins s σ H _ I h) fun us s1 ⟨vs, H1, I1, r, q⟩ => ⟨I1.kIn, ?_⟩) he hpl
  exact run_fn F hr hb hd hx I1 r q
structure Mk (K : PySem.W.Frag) (C f : Addr) : Prop where
  makes : PySem.W.makesIn K C = true
  init : PySem.W.findIn K (.ref C) "__init__" = some (some (.ref f))
  fn : PySem.W.isFn K (.ref f) = true
  kp : PySem.W.keepIn K (.ref C) = true
end
section
variable {X : Cx} {CX : CXT} {k : Nat} {f C : Addr} {fd : FuncData} {ps ks : List Str} {sp : Sp} {E : XK} {x m : Str} {p pos apos kpos : Pos} {e o : Expr} {es : List Expr} {kws : List Keyword} {te ta : TE} {t tk : TA} {nm : Option Str}
structure KBinds (K : PySem.W.Frag) (fd : FuncData) (ps ks : List Str) (g : List Value → List Value → List Value) (gV : List V → List V → List V) : Prop where
  to : ∀ (s : Shared) (us ws : List Value), K.In s.heap → (g us ws).length = ps.length → BindsTo s fd ⟨us, ks.zip ws⟩ (ps.zip (g us ws))
  rel : ∀ {vs : List V} {us : List Value} {zs : List V} {ws : List Value}, Vals vs us → Vals zs ws → Vals (gV vs zs) (g us ws)
variable {g : List Value → List Value → List Value} {gV : List V → List V → List V}
end
structure FnScope (N P : List Str) (sc : Scope) : Prop where
  kind : sc.kind = .function
  co : sc.isCoroutine = false
  gen : sc.isGenerator = false
  nd : N.Nodup
  pre : N.take P.length = P
  par : ∀ x ∈ P, sc.names.lookup x = some .local ∨ sc.names.lookup x = some .cell
  nofree : ∀ y ∈ sc.names, y.2 ≠ .free
theorem bindL_out {kindOf : Str → Option NameKind} {x : Str} : ∀ {binds : List (Str × Value)} {m : Str → Option Value}, (∀ v, (x, v) ∉ binds) → bindL kindOf binds m x = m x
  | [], _, _ => rfl
  | (n, v) :: r, m, h => by
    unfold bindL
    rw [bindL_out fun w hw => h w (List.mem_cons_of_mem _ hw)]
    split
    · have : x ≠ n := by rintro rfl; exact h v List.mem_cons_self
      simp [this]
    · rfl
theorem bindC_out {kindOf : Str → Option NameKind} {x : Str} : ∀ {binds : List (Str × Value)} {m : Str → Option Value}, (∀ v, (x, v) ∉ binds) → bindC kindOf binds m x = m x
  | [], _, _ => rfl
  | (n, v) :: r, m, h => by
    unfold bindC
    rw [bindC_out fun w hw => h w (List.mem_cons_of_mem _ hw)]
    split
    · rfl
    · have : x ≠ n := by rintro rfl; exact h v List.mem_cons_self
      simp [this]
theorem bindL_get {kindOf : Str → Option NameKind} {x : Str} {v : Value} : ∀ {P : List Str} {vs : List Value} {i : Nat} {m : Str → Option Value}, P.Nodup → P[i]? = some x → vs[i]? = some v → kindOf x = some .local →
    bindL kindOf (P.zip vs) m x = some v
  | [], _, _, _, _, h, _, _ => by simp at h
  | _ :: _, [], _, _, _, _, h, _ => by simp at h
  | p :: P, w :: vs, 0, m, nd, h1, h2, hk => by
    simp at h1 h2; subst h1; subst h2
    show bindL kindOf ((p, w) :: P.zip vs) m p = _
    unfold bindL
    rw [bindL_out fun v hv => (List.nodup_cons.mp nd).1 (List.of_mem_zip hv).1, if_pos hk]
    simp
  | p :: P, w :: vs, i + 1, m, nd, h1, h2, hk => by
    show bindL kindOf ((p, w) :: P.zip vs) m x = _
    unfold bindL
    exact bindL_get (i := i) (List.nodup_cons.mp nd).2 (by simpa using h1) (by simpa using h2) hk
theorem bindC_get {kindOf : Str → Option NameKind} {x : Str} {v : Value} : ∀ {P : List Str} {vs : List Value} {i : Nat} {m : Str → Option Value}, P.Nodup → P[i]? = some x → vs[i]? = some v → kindOf x ≠ some .local →
    bindC kindOf (P.zip vs) m x = some v
  | [], _, _, _, _, h, _, _ => by simp at h
  | _ :: _, [], _, _, _, _, h, _ => by simp at h
  | p :: P, w :: vs, 0, m, nd, h1, h2, hk => by
    simp at h1 h2; subst h1; subst h2
    show bindC kindOf ((p, w) :: P.zip vs) m p = _
    unfold bindC
    rw [bindC_out fun v hv => (List.nodup_cons.mp nd).1 (List.of_mem_zip hv).1, if_neg hk]
    simp
  | p :: P, w :: vs, i + 1, m, nd, h1, h2, hk => by
    show bindC kindOf ((p, w) :: P.zip vs) m x = _
    unfold bindC
    exact bindC_get (i := i) (List.nodup_cons.mp nd).2 (by simpa using h1) (by simpa using h2) hk
def start (N : List Str) (vs : List V) : St := vs.map some ++ List.replicate (N.length - vs.length) none
def cxOf (CX : CXT) (P : Program) (w : World) (K : PySem.W.Frag) (mg : Str → Option Value) (base : Heap) (N : List Str) (qual : Str) (scope : Scope) (f : Addr) (cd : Value) (A : Around) (outer : List Env) (s : Shared) (H : Hp) (E : XK) : Cx where
  prog := P
  w := w
  K := K
  mg := mg
  base := base
  A := A.deeper (envOfC qual scope s.heap.objs.size f cd)
  N := N
  s₀ := s
  H₀ := H
  env := envOfC qual scope s.heap.objs.size f cd
  outer := outer
  stack := envOfC qual scope s.heap.objs.size f cd :: outer
  ex := []
  calm := true
  fn := fun _ => true
  pn := []
  xe := fun e s' => wpAny (model P w) (A.deeper (envOfC qual scope s.heap.objs.size f cd)) (leaving (envOfC qual scope s.heap.objs.size f cd) e) (fun _ s'' => CX outer H s E e s'') (fun e' s'' => CX outer H s E e' s'') s'
theorem cell_has {sc : Scope} {n : Nat} {x : Str} (h : sc.names.lookup x = some .cell) : ∃ c, (cellsFrom n sc.names []).lookup x = some c := by
  have q := PySem.W.cellsFrom_some sc.names n [] (.inl h)
  exact Option.isSome_iff_exists.mp q
theorem inv_start {CX : CXT} {P : Program} {w : World} {K : PySem.W.Frag} {mg : Str → Option Value} {base : Heap} {N ps : List Str} {qual : Str} {scope : Scope} {f : Addr} {cd : Value} {A : Around} {outer : List Env} {s s1 : Shared} {H : Hp} {E : XK} {us : List Value} {vs : List V}
    (S : FnScope N ps scope) (hd : A.handled = none) (e0 : Env0 P w K mg base A outer s H) (hl : vs.length = ps.length) (r : Vals vs us)
    (x : InCallC s s.heap.objs.size (bindL (envOfC qual scope s.heap.objs.size f cd).kindOf (ps.zip us) fun _ => none) (cellsFrom (s.heap.objs.size + 1) scope.names []) (bindC (envOfC qual scope s.heap.objs.size f cd).kindOf (ps.zip us) fun _ => none) s1) :
    Inv (cxOf CX P w K mg base N qual scope f cd A outer s H E) [] (start N vs) H s1 := by
  have hpl : ps.length ≤ N.length := by have := congrArg List.length S.pre; rw [List.length_take] at this; omega
  obtain ⟨h1, tk, rfl, hk⟩ := x.done
  have noA : ∀ b : Addr, b ∉ (cxOf CX P w K mg base N qual scope f cd A outer s H E).ex := fun b z => absurd (show b ∈ ([] : List Addr) from z) (by simp)
  refine ⟨⟨e0.mod, S.kind, rfl, rfl, Nat.le_refl _, fun y z c h1 h2 => ?_, fun y hy => ?_, fun y c _ h => ?_, fun _ => hd, Around.frames_deeper e0.frames, .inr ⟨rfl, rfl⟩, fun b z => absurd z (noA b), e0.bs, e0.bsz, fun b _ _ => noA b, fun b z => absurd z (noA b), e0.funs, e0.frf⟩,
    rfl, e0.bare, Un.kept hk, ⟨_, x.toInCall.ns, fun i y v h1 h2 h3 => ?_⟩, fun y c h => ⟨_, x.cell y c h⟩, e0.hok.fresh (Nat.le_refl _), fun y c h => ?_, fun p hp => absurd (show p ∈ ([] : List (Addr × Obj)) from hp) (by simp), e0.hok.kept hk, ?_⟩
  · exact name_of_addr x.apart (PySem.mem_of_lookup h1) (PySem.mem_of_lookup h2)
  · have hy : scope.names.lookup y = some .cell ∨ scope.names.lookup y = some .free := hy
    rcases hy with hy | hy
    · exact cell_has hy
    · exact absurd rfl (S.nofree _ (PySem.mem_of_lookup hy))
  · exact Nat.le_of_lt (x.above y c (PySem.mem_of_lookup h))
  · have hi : i < vs.length := by
      unfold start at h2
      by_cases hi : i < vs.length
      · exact hi
      · rw [List.getElem?_append_right (by simpa using hi)] at h2
        rw [List.getElem?_replicate] at h2
        split at h2 <;> cases h2
    have ha : vs[i]? = some v := by
      unfold start at h2
      rw [List.getElem?_append_left (by simpa using hi), List.getElem?_map] at h2
      cases e : vs[i]? with
      | none => rw [e] at h2; cases h2
      | some a => rw [e] at h2; cases h2; rfl
    obtain ⟨u, hu, rv⟩ := r.get ha
    have hp : ps[i]? = some y := by
      rw [← S.pre, List.getElem?_take_of_lt (by omega)]; exact h1
    have ndP : ps.Nodup := by rw [← S.pre]; exact S.nd.sublist (List.take_sublist _ _)
    refine ⟨u, rv, ?_⟩
    rcases S.par y (List.mem_of_getElem? hp) with k | k
    · exact .inl ⟨k, bindL_get ndP hp hu k⟩
    · obtain ⟨c, e⟩ := cell_has (n := s.heap.objs.size + 1) k
      refine .inr ⟨.inl k, c, e, ?_⟩
      have q := x.cell y c e
      rw [bindC_get ndP hp hu (by show scope.names.lookup y ≠ _; rw [k]; decide)] at q
      exact q
  · exact e0.hok.fresh (Nat.le_of_lt (x.above y c (PySem.mem_of_lookup h)))
  · unfold start
    show _ = N.length
    rw [List.length_append, List.length_map, List.length_replicate]
    omega
theorem fn_of {CX : CXT} {P : Program} {w : World} {K : PySem.W.Frag} {mg : Str → Option Value} {base : Heap} {k : Nat} {f : Addr} {name qual : Str} {params : Arguments} {body : List Stmt} {scope : Scope} {dV kV doc pm cdv ct oc : Value} {an od : Option Addr}
    {osl : Array (Option Value)} {N ps : List Str} {sp : Sp} (lk : K.lookup f = some ⟨oc, od, .func (PySem.W.fnOf name qual params body scope dV kV doc pm an cdv ct), osl⟩) (hcd : PySem.W.codeIn K cdv qual = true) (S : FnScope N ps scope)
    (len : ∀ vs H Q E, sp vs H Q E → vs.length = ps.length)
    (hbody : ∀ (A : Around) (outer : List Env) (s : Shared) (H : Hp) (vs : List V) (Q : VK) (E : XK), Room k (A.deeper (envOfC qual scope s.heap.objs.size f cdv)) → sp vs H Q E →
      ∃ t, PSs (cxOf CX P w K mg base N qual scope f cdv A outer s H E) body t ∧ t { nx := fun _ H' => Q .non H', rt := Q } (start N vs) H) :
    FnOk P w K mg base CX (k + 1) f (PySem.W.fnOf name qual params body scope dV kV doc pm an cdv ct) ps sp := by
  refine ⟨len, fun A outer s H args us vs Q E hr e0 hb r hsp => ?_⟩
  have hl := len _ _ _ _ hsp
  have KX : K.In s.heap := e0.mod.kin.keeps fun b o e => (e0.bs b o e).1
  have lim : s.heap.NoLimit := e0.mod.nolimit.keeps fun b o e => (e0.bs b o e).1
  have hkind : ∀ y ∈ ps.zip us, scope.names.lookup y.1 = some .local ∨ (scope.names.lookup y.1 = some .cell ∧ ((cellsFrom (s.heap.objs.size + 1) scope.names []).lookup y.1).isSome = true) := fun ⟨n, v⟩ hy => by
    rcases S.par n (List.of_mem_zip hy).1 with q | q
    · exact .inl q
    · exact .inr ⟨q, PySem.W.cellsFrom_some _ _ _ (.inl q)⟩
  refine codeAny_call_function hr.depth (KX _ _ lk) rfl S.co S.gen rfl (PySem.W.codeRec_of KX hcd) (hb _ _ _ _ ?_)
  refine wpAny_newFunctionEnv_cells S.kind hkind fun env he s1 x => ?_
  subst he
  refine ⟨lim.keeps x.toInCall.keep, codeAny_func ?_⟩
  obtain ⟨t, ht, hq⟩ := hbody A outer s H vs Q E (hr.deeper _) hsp
  have I : Inv (cxOf CX P w K mg base N qual scope f cdv A outer s H E) [] (start N vs) H s1 := inv_start S hr.hd e0 hl r x
  refine wpAny_mono (ht [] s1 (start N vs) H _ I hq) (fun fl s' hs => ?_) fun e s' hs => hs
  have fin : ∀ {σ' : St} {H' : Hp} {v : V} {u : Value}, Inv (cxOf CX P w K mg base N qual scope f cdv A outer s H E) [] σ' H' s' → RelV v u → Q v H' → CE outer P w H s Q u s' :=
    fun {σ' H' v u} J rv q => ⟨v, H', J.os, J.bare, J.base, J.hok, rv, q⟩
  cases fl with
  | ret u =>
    obtain ⟨v, σ', H', J, rv, q⟩ := hs
    exact fin J rv q
  | next =>
    obtain ⟨σ', H', J, q⟩ := hs
    exact fin (v := V.non) (u := Value.none) J rfl q
  | brk =>
    obtain ⟨_, _, _, q⟩ := hs
    exact False.elim q
  | cont =>
    obtain ⟨_, _, _, q⟩ := hs
    exact False.elim q
end L2
namespace L2
open PySem PySem.Spec PyProof.Rows
section
variable {X : Cx} {x : Str} {p pos : Pos} {e : Expr} {es : List Expr} {t : TA} {id T : String} {r : List V → Hp → VK → Prop}
def tCB (r : List V → Hp → VK → Prop) (t : TA) : TE := fun σ H Q => t σ H fun vs H1 => r vs H1 Q
theorem pe_callB (hc : CallR X (.builtin id) r) (hg : Gl X x) (hm : X.mg x = none) (hv : bootBuiltins x = some (.builtin id)) (ha : PA X (e :: es) t) (hn : x ≠ "__name__" := by decide) (hdb : (x == ("__debug__" : Str)) = false := by decide)
    (he : starEach (e :: es) X.env = (false, eval e X.env) :: starEach es X.env := by rfl) (hpl : (backTo pos (starEach es X.env)).any (·.1) = false := by rfl) : PE X (.Call (.Name x p) (e :: es) [] pos) (tCB r t) := by
  intro pins s σ H Q I h
  refine wpAny_Call_Name_kw (ld_blt I hg hm hv ?_ hn hdb)
  exact PyProof.Rows.callWith_builtin1 (thn (ha pos pins s σ H _ I h) fun us s1 ⟨vs, H1, I1, r1, q1⟩ => hc pins s1 σ H1 vs us Q I1 r1 q1) he hpl
theorem pe_callTy (hc : CallR X (.type T) r) (hg : Gl X x) (hm : X.mg x = none) (hv : bootBuiltins x = some (.type T)) (ha : PA X (e :: es) t) (hn : x ≠ "__name__" := by decide) (hdb : (x == ("__debug__" : Str)) = false := by decide)
    (he : starEach (e :: es) X.env = (false, eval e X.env) :: starEach es X.env := by rfl) (hpl : (backTo pos (starEach es X.env)).any (·.1) = false := by rfl) : PE X (.Call (.Name x p) (e :: es) [] pos) (tCB r t) := by
  intro pins s σ H Q I h
  refine wpAny_Call_Name_kw (ld_blt I hg hm hv ?_ hn hdb)
  exact PyProof.Rows.callWith_type1 (thn (ha pos pins s σ H _ I h) fun us s1 ⟨vs, H1, I1, r1, q1⟩ => hc pins s1 σ H1 vs us Q I1 r1 q1) he hpl
end
end L2
namespace HT
open PySem PyProof.Rows
section
open PySem.SeqAt
open PySem.AutoSeq1 (wpAny_loadPart')
open PySem.MeetsSeq PySem.MeetsSeq2 PySem.MeetsSeq3
end
section
variable {prog : Program} {w : World} {A : Around} {E : Value → Shared → Prop} {s : Shared}
theorem cat_tup {t b : Addr} {vs ws : List Value} {Q : Value → Shared → Prop} (ht : IsTup s.heap t vs.toArray) (hb : IsTup s.heap b ws.toArray) (hv : vs ≠ [])
    (h1 : ws = [] → Q (.ref t) s) (h2 : ws ≠ [] → Q (.ref s.heap.objs.size) { s with heap := s.heap.push { cls := .type "tuple", data := .seq (vs ++ ws).toArray } })
    (hsz : vs.length + ws.length ≤ sizeLine) : wpAny (model prog w) A (binaryOp .Add (.ref t) (.ref b)) Q E s := by
  obtain ⟨⟨cls, dd, data, sl⟩, ho, hc, n, hd⟩ := id ht
  obtain ⟨⟨cls2, dd2, data2, sl2⟩, ho2, hc2, n2, hd2⟩ := id hb
  simp only at hc hd hc2 hd2
  subst hc hd hc2 hd2
  have e : vs.toArray ++ ws.toArray = (vs ++ ws).toArray := by simp
  by_cases hw : ws = []
  · exact concat_meets ⟨_, ho, rfl⟩ ⟨_, ho2, rfl⟩ noFill_tuple_add seq_tuple_add PySem.F.slot_tuple_add PySem.F.entry_tuple_add (PySem.F.args_tuple_add_2 _ _)
      (tuple_addW1 t b vs.toArray ws.toArray n n2 dd dd2 sl sl2 (by simpa using hv) (by simp [hw])) ⟨ho, ho2, h1 hw⟩
  · refine concat_meets ⟨_, ho, rfl⟩ ⟨_, ho2, rfl⟩ noFill_tuple_add seq_tuple_add PySem.F.slot_tuple_add PySem.F.entry_tuple_add (PySem.F.args_tuple_add_2 _ _)
      (tuple_addW2 t b vs.toArray ws.toArray n n2 dd dd2 sl sl2 (by simpa using hv) (by simpa using hw) (by rw [List.size_toArray, List.size_toArray]; exact hsz)) ⟨ho, ho2, ?_⟩
    rw [e]
    exact h2 hw
def sIx (n d : Nat) : Option Int → Nat
  | none => d
  | some v => if v < 0 then (v + (n : Int)).toNat else min v.toNat n
theorem sIx_none (n d : Nat) : sIx n d none = d := rfl
theorem sIx_le (n d : Nat) (hd : d ≤ n) (o : Option Int) : sIx n d o ≤ n := by
  cases o with
  | none => exact hd
  | some v =>
    show (if v < 0 then (v + (n : Int)).toNat else min v.toNat n) ≤ n
    by_cases hv : v < 0
    · rw [if_pos hv]; omega
    · rw [if_neg hv]; exact Nat.min_le_right _ _
theorem clip_eq (v : Int) (n d : Nat) : (if v < 0 then max (v + (n : Int)) 0 else min v (n : Int)) = ((sIx n d (some v) : Nat) : Int) := by
  show (if v < 0 then max (v + (n : Int)) 0 else min v (n : Int)) = (((if v < 0 then (v + (n : Int)).toNat else min v.toNat n) : Nat) : Int)
  by_cases hv : v < 0
  · simp only [if_pos hv]; omega
  · simp only [if_neg hv]; omega
theorem adjust_gen (lo hi : Option Int) (n : Nat) : Builtin.Slice.sliceAdjust lo hi 1 (n : Int) = (((sIx n 0 lo : Nat) : Int), ((sIx n n hi : Nat) : Int)) := by
  have h1 : ¬ ((1 : Int) < 0) := by omega
  unfold Builtin.Slice.sliceAdjust
  simp only [h1, if_false]
  refine Prod.ext ?_ ?_
  · cases lo with
    | none => rfl
    | some v => exact clip_eq v n 0
  · cases hi with
    | none => rfl
    | some v => exact clip_eq v n n
theorem places_gen (i j : Nat) : Builtin.Slice.slicePlaces (i : Int) (j : Int) 1 = j - i := by
  unfold Builtin.Slice.slicePlaces
  have h1 : (1 : Int) > 0 := by omega
  simp only [h1, if_true, Int.ediv_one]
  split <;> omega
theorem slicePart_ {v : Value} {o : Option Int} {Q : Option Int → Shared → Prop} (p : IsPart v o) (h : Q o s) : wpAny (model prog w) A (Builtin.Slice.slicePartIndex v) Q E s := by
  cases p with
  | none => exact slicePart_none h
  | int i t => exact slicePart_int h
theorem sliceApplied_gen {sl : Addr} {vl vu : Value} {lo hi : Option Int} {n : Nat} {Q : Int × Int × Nat → Shared → Prop} (hs : s.heap.IsSliceOf sl vl vu .none) (pl : IsPart vl lo) (pu : IsPart vu hi)
    (h : Q (((sIx n 0 lo : Nat) : Int), 1, sIx n n hi - sIx n 0 lo) s) : wpAny (model prog w) A (Builtin.Slice.sliceApplied (.ref sl) (pure (n : Int))) Q E s := by
  obtain ⟨os, hos, hcs, hds⟩ := id hs
  unfold Builtin.Slice.sliceApplied Builtin.Slice.sliceFields
  refine wpAny_bind (wpAny_bind (wpAny_field hos hds (x := vl) rfl (wpAny_bind (wpAny_field hos hds (x := vu) rfl (wpAny_bind (wpAny_field hos hds (x := .none) rfl (wpAny_pure ?_)))))))
  refine wpAny_bind (slicePart_none ?_)
  show wpAny _ _ (if ((1 : Int) == 0) = true then _ else _) _ _ s
  rw [if_neg (by decide)]
  refine wpAny_bind (slicePart_ pl (wpAny_bind (slicePart_ pu (wpAny_bind (wpAny_pure ?_)))))
  show wpAny _ _ (match Builtin.Slice.sliceAdjust lo hi 1 (n : Int) with | (lo, hi) => pure (lo, (1 : Int), Builtin.Slice.slicePlaces lo hi 1)) _ _ s
  rw [adjust_gen lo hi n]
  show wpAny _ _ (pure (((sIx n 0 lo : Nat) : Int), (1 : Int), Builtin.Slice.slicePlaces ((sIx n 0 lo : Nat) : Int) ((sIx n n hi : Nat) : Int) 1)) _ _ s
  rw [places_gen]
  exact wpAny_pure h
theorem pick_gen (xs : Array Value) (i k : Nat) : ((List.range k).filterMap fun (m : Nat) => xs[((i : Int) + (m : Int) * 1).toNat]?).toArray = ((xs.toList.drop i).take k).toArray := by
  have e : (fun (m : Nat) => xs[((i : Int) + (m : Int) * 1).toNat]?) = fun m => xs[i + m]? := by
    funext m
    have : ((i : Int) + (m : Int) * 1).toNat = i + m := by omega
    rw [this]
  rw [e]
  have := pick_run xs i k
  rw [List.filterMap_map] at this
  have e2 : ((fun x => xs[x]?) ∘ fun x => i + x) = fun m => xs[i + m]? := rfl
  rw [e2] at this
  rw [this]
theorem getItem_tuple_cut {t sl : Addr} {items : Array Value} {vl vu : Value} {lo hi : Option Int} {Q : Value → Shared → Prop} (ht : IsTup s.heap t items) (hs : s.heap.IsSliceOf sl vl vu .none) (pl : IsPart vl lo) (pu : IsPart vu hi)
    (hw : ¬ (sIx items.size 0 lo = 0 ∧ sIx items.size items.size hi = items.size))
    (h : Q (.ref s.heap.objs.size) { s with heap := s.heap.push { cls := .type "tuple", data := .seq ((items.toList.drop (sIx items.size 0 lo)).take (sIx items.size items.size hi - sIx items.size 0 lo)).toArray } })
    (hsz : items.size ≤ sizeLine) : wpAny (model prog w) A (getItem (.ref t) (.ref sl)) Q E s := by
  have htake : sizeOk (.seq ((items.toList.drop (sIx items.size 0 lo)).take (sIx items.size items.size hi - sIx items.size 0 lo)).toArray) := by
    show ((items.toList.drop (sIx items.size 0 lo)).take (sIx items.size items.size hi - sIx items.size 0 lo)).toArray.size ≤ sizeLine
    rw [List.size_toArray, List.length_take, List.length_drop, Array.length_toList]
    omega
  have hj : sIx items.size items.size hi ≤ items.size := sIx_le _ _ (Nat.le_refl _) hi
  obtain ⟨os, hos, hcs, hds⟩ := id hs
  have hTs : s.TypeIs (.ref sl) "slice" := ⟨os, hos, hcs⟩
  unfold getItem
  try with_reducible refine wpAny_holding ?_
  first | refine wpAny_bind (wpAny_pure ?_) | skip
  refine wpAny_bind (wpAny_sequenceKey ht.typeIs (by decide) ?_)
  refine wpAny_bind (wpAny_callSpecial?_slot (name := Str.ofString "__getitem__") ht.typeIs PyProof.Rows.slot_tuple_getitem
    (wpAny_call_entry PyProof.Rows.slot_tuple_getitem ht.typeIs entry_tuple_getitem ?_ (args_tuple_getitem _ _)))
  show wpAny _ _ (Builtin.Tuple.tupleItemsOf (.ref t) >>= _) _ _ s
  refine wpAny_bind (tupleItemsOf_ ht ?_)
  refine wpAny_bind (wpAny_typeOf hTs ?_)
  rw [if_pos (by decide)]
  refine wpAny_bind (sliceApplied_gen hs pl pu ?_)
  have hno : ¬ ((((sIx items.size 0 lo : Nat) : Int) == 0 && (1 : Int) == 1 && (sIx items.size items.size hi - sIx items.size 0 lo) == items.size) = true) := by
    intro q
    rw [Bool.and_eq_true, Bool.and_eq_true] at q
    have q1 : ((sIx items.size 0 lo : Nat) : Int) = 0 := eq_of_beq q.1.1
    have q2 : sIx items.size items.size hi - sIx items.size 0 lo = items.size := eq_of_beq q.2
    exact hw ⟨by omega, by omega⟩
  show wpAny _ _ (if (((sIx items.size 0 lo : Nat) : Int) == 0 && (1 : Int) == 1 && (sIx items.size items.size hi - sIx items.size 0 lo) == items.size) = true then _ else _) _ _ s
  rw [if_neg hno, pick_gen]
  first
    | exact wpAny_bind (m := Builtin.Tuple.tupleExact _) (wpAny_newObj_type (wpAny_pure ⟨_, rfl, wpAny_pure h⟩) htake)
    | exact wpAny_bind (m := Builtin.Tuple.tupleExact _) (wpAny_newObj_type (wpAny_bind (wpAny_pure (wpAny_pure ⟨_, rfl, wpAny_pure h⟩))) htake)
    | exact wpAny_bind (wpAny_bind (m := Builtin.Tuple.tupleExact _) (wpAny_newObj_type (wpAny_pure (wpAny_pure ⟨_, rfl, wpAny_pure h⟩)) htake))
    | exact wpAny_bind (wpAny_bind (m := Builtin.Tuple.tupleExact _) (wpAny_newObj_type (wpAny_pure ⟨_, rfl, wpAny_pure h⟩) htake))
end
end HT
namespace L2
open PySem PySem.Spec PyProof.Rows
abbrev TO := St → Hp → (Option Int → Hp → Prop) → Prop
def PO (X : Cx) (e : Option Expr) (t : TO) : Prop :=
  ∀ (pins : List (Addr × Obj)) (s : Shared) (σ : St) (H : Hp) (Q : Option Int → Hp → Prop), Inv X pins σ H s → t σ H Q →
    wpAny (model X.prog X.w) X.A (evalPart e X.env) (fun u s' => ∃ o H', Inv X pins σ H' s' ∧ IsPart u o ∧ Q o H') X.xe s
def tNoPart : TO := fun _ H Q => Q none H
def tPart (t : TE) : TO := fun σ H Q => t σ H fun x H1 => ∃ i, x = .int i ∧ Q (some i) H1
theorem intsAre_of {ns : List Int} : ∀ {us : List Value}, Vals (ns.map V.int) us → IntsAre us ns := by
  induction ns with
  | nil => intro us r; rw [List.map_nil] at r; cases r; exact .nil
  | cons n ns ih =>
    intro us r
    rw [List.map_cons] at r
    cases r with
    | cons r1 r2 =>
      obtain ⟨t, e⟩ := r1
      subst e
      exact .cons n t (ih r2)
section
variable {X : Cx} {e : Expr} {te : TE} {lo hi : Option Expr} {tl th : TO} {pos p2 : Pos}
theorem po_none : PO X none tNoPart := by
  intro pins s σ H Q I h
  rw [evalPart_none]
  exact wpAny_pure ⟨none, H, I, .none, h⟩
theorem po_some (h : PE X e te) : PO X (some e) (tPart te) := by
  intro pins s σ H Q I hw
  rw [evalPart_some]
  refine thn (h pins s σ H _ I hw) fun u s1 ⟨x, H1, I1, r1, q1⟩ => ?_
  obtain ⟨i, rfl, q⟩ := q1
  obtain ⟨t, rfl⟩ := r1
  exact ⟨some i, H1, I1, .int i t, q⟩
def SlR (X : Cx) (r : V → Option Int → Option Int → Hp → VK → Prop) : Prop :=
  ∀ (pins : List (Addr × Obj)) (s : Shared) (σ : St) (H : Hp) (x : V) (v vl vu : Value) (lo hi : Option Int) (sl : Addr) (Q : VK), Inv X pins σ H s → RelV x v → s.heap.IsSliceOf sl vl vu .none → IsPart vl lo → IsPart vu hi → r x lo hi H Q →
    ∃ T id, typeLookup (.type T) "__getitem__" = pure (some (.builtin id)) ∧ s.TypeIs v T ∧ wpAny (model X.prog X.w) X.A (getItem v (.ref sl)) (EP X pins σ Q) X.xe s
def tSl (r : V → Option Int → Option Int → Hp → VK → Prop) (te : TE) (tl th : TO) : TE := fun σ H Q => te σ H fun x H1 => tl σ H1 fun l H2 => th σ H2 fun u H3 => r x l u H3 Q
theorem pe_slice {r : V → Option Int → Option Int → Hp → VK → Prop} (hr : SlR X r) (he : PE X e te) (hl : PO X lo tl) (hu : PO X hi th) : PE X (.Subscript e (.Slice lo hi none p2) pos) (tSl r te tl th) := by
  intro pins s σ H Q I h
  refine Subscript_ (thn (he pins s σ H _ I h) fun v s1 ⟨x, H1, I1, r1, q1⟩ => ?_)
  refine wpAny_Slice (thn (hl pins s1 σ H1 _ I1 q1) fun vl s2 ⟨l, H2, I2, pl, q2⟩ => thn (hu pins s2 σ H2 _ I2 q2) fun vu s3 ⟨u, H3, I3, pu, q3⟩ => ?_)
  rw [evalPart_none]
  refine wpAny_pure ?_
  have I4 : Inv X pins σ H3 { s3 with heap := s3.heap.push { cls := .type "slice", data := .fields #[vl, vu, .none] } } := I3.kept (t' := s3.toks) fun b ob q => Heap.get?_push_of_some _ q
  obtain ⟨T, id, hT, ht, hg⟩ := hr pins { s3 with heap := s3.heap.push { cls := .type "slice", data := .fields #[vl, vu, .none] } } σ H3 x v vl vu l u s3.heap.objs.size Q I4 r1 (Heap.IsSliceOf.new ..) pl pu q3
  show wpAny (model X.prog X.w) X.A (subscriptTail e (.Slice lo hi none p2) v (.ref s3.heap.objs.size)) (EP X pins σ Q) X.xe { s3 with heap := s3.heap.push { cls := .type "slice", data := .fields #[vl, vu, .none] } }
  exact tail_any (ops := [.ref s3.heap.objs.size, v]) ht hT hg (by with_unfolding_all rfl)
def cutV (xs : List V) (lo hi : Option Int) : List V := (xs.drop (HT.sIx xs.length 0 lo)).take (HT.sIx xs.length xs.length hi - HT.sIx xs.length 0 lo)
theorem cutV_length (xs : List V) (lo hi : Option Int) : (cutV xs lo hi).length ≤ xs.length := by
  unfold cutV
  rw [List.length_take, List.length_drop]
  omega
def rSlT (K : PySem.W.Frag) : V → Option Int → Option Int → Hp → VK → Prop := fun x lo hi H Q => ∃ a xs, x = .ref a ∧ SqT K H a xs ∧
  ¬ (HT.sIx xs.length 0 lo = 0 ∧ HT.sIx xs.length xs.length hi = xs.length) ∧ ∀ p, H p = none → Q (.ref p) (upd H p (.tup (cutV xs lo hi)))
theorem sl_tup : SlR X (rSlT X.K) := by
  intro pins s σ H x v vl vu lo hi sl Q I rx hs pl pu h
  obtain ⟨a, xs, rfl, hx, hw, q⟩ := h
  cases rx
  obtain ⟨its, r, ht, hz⟩ := I.tuple hx
  have hlen : its.toArray.size = xs.length := by rw [List.size_toArray]; exact r.length.symm
  refine ⟨"tuple", _, PyProof.Rows.slot_tuple_getitem.lookup, ht.typeIs, ?_⟩
  refine HT.getItem_tuple_cut ht hs pl pu (by rw [hlen]; exact hw) ?_ (by rw [hlen]; exact hz)
  rw [hlen]
  refine ⟨.ref s.heap.objs.size, _, I.laid (t' := s.toks) (o := .tup (cutV xs lo hi)) (fun b ob q => Heap.get?_push_of_some _ q) (Nat.le_refl _) ?_, rfl, q _ (I.hok.fresh (Nat.le_refl _))⟩
  exact ⟨Nat.le_trans (cutV_length xs lo hi) hz, _, (r.drop (HT.sIx xs.length 0 lo)).take (HT.sIx xs.length xs.length hi - HT.sIx xs.length 0 lo), IsTup.new _ _⟩
def rCatT (K : PySem.W.Frag) : R2 := fun x y H Q => ∃ a b xs ys, x = .ref a ∧ y = .ref b ∧ SqT K H a xs ∧ SqT K H b ys ∧ xs ≠ [] ∧ xs.length + ys.length ≤ sizeLine ∧
  (ys = [] → Q (.ref a) H) ∧ (ys ≠ [] → ∀ p, H p = none → Q (.ref p) (upd H p (.tup (xs ++ ys))))
theorem Vals.nil_iff {xs : List V} {us : List Value} (r : Vals xs us) : us = [] ↔ xs = [] := by
  cases r with
  | nil => simp
  | cons _ _ => simp
theorem op_catT : OpR X (binaryOp .Add) (rCatT X.K) := by
  intro pins s σ H x y v u Q I rx ry h
  obtain ⟨a, b, xs, ys, rfl, rfl, ha, hb, hx, hz, q1, q2⟩ := h
  cases rx
  cases ry
  obtain ⟨its, r1, p1, _⟩ := I.tuple ha
  obtain ⟨its2, r2, p2, _⟩ := I.tuple hb
  refine HT.cat_tup p1 p2 (fun z => hx (r1.nil_iff.mp z)) (fun z => ⟨.ref a, H, I, rfl, q1 (r2.nil_iff.mp z)⟩) (fun z => ?_) (by rw [← r1.length, ← r2.length]; exact hz)
  refine ⟨.ref s.heap.objs.size, _, I.laid (t' := s.toks) (o := .tup (xs ++ ys)) (fun b ob q => Heap.get?_push_of_some _ q) (Nat.le_refl _) ?_, rfl, q2 (fun w => z (r2.nil_iff.mpr w)) _ (I.hok.fresh (Nat.le_refl _))⟩
  exact ⟨by rw [List.length_append]; exact hz, _, r1.append r2, IsTup.new _ _⟩
end
end L2
namespace L2
open PySem PySem.Spec PyProof.Rows
def ixN (n : Nat) (i : Int) : Option Nat := if 0 ≤ i then (if i < n then some i.toNat else none) else if -(n : Int) ≤ i then some (i + n).toNat else none
def atI {α : Type} (xs : List α) (i : Int) : Option α := (ixN xs.length i).bind fun j => xs[j]?
theorem ixN_seq {n : Nat} {i : Int} {j : Nat} (h : ixN n i = some j) : seqIndex? i n = some j ∧ j < n ∧ -(n : Int) ≤ i ∧ i < n := by
  unfold ixN at h
  by_cases h0 : 0 ≤ i
  · rw [if_pos h0] at h
    by_cases h1 : i < n
    · rw [if_pos h1] at h
      have e : i.toNat = j := Option.some.inj h
      exact ⟨by rw [seqIndex_of h0 h1, e], by omega, by omega, h1⟩
    · rw [if_neg h1] at h; cases h
  · rw [if_neg h0] at h
    by_cases h1 : -(n : Int) ≤ i
    · rw [if_pos h1] at h
      have e : (i + n).toNat = j := Option.some.inj h
      exact ⟨by rw [seqIndex_neg (by omega) h1, e], by omega, h1, by omega⟩
    · rw [if_neg h1] at h; cases h
theorem atI_get {α : Type} {xs : List α} {i : Int} {v : α} (h : atI xs i = some v) : ∃ j, seqIndex? i xs.length = some j ∧ xs[j]? = some v ∧ j < xs.length ∧ -(xs.length : Int) ≤ i ∧ i < xs.length := by
  unfold atI at h
  cases e : ixN xs.length i with
  | none => rw [e] at h; cases h
  | some j =>
    rw [e] at h
    obtain ⟨h1, h2, h3, h4⟩ := ixN_seq e
    exact ⟨j, h1, h, h2, h3, h4⟩
theorem atI_nat {α : Type} {xs : List α} {j : Nat} {v : α} (h : xs[j]? = some v) : atI xs (j : Int) = some v := by
  have hj : j < xs.length := (List.getElem?_eq_some_iff.mp h).1
  have e : ixN xs.length (j : Int) = some j := by
    unfold ixN
    rw [if_pos (by omega), if_pos (by omega)]; simp
  unfold atI; rw [e]; exact h
theorem atI_last {α : Type} (xs : List α) (v : α) : atI (xs ++ [v]) (-1) = some v := by
  have hl : (xs ++ [v]).length = xs.length + 1 := by simp
  have e : ixN (xs ++ [v]).length (-1) = some xs.length := by
    unfold ixN
    rw [hl, if_neg (by decide), if_pos (by omega)]
    congr 1
    omega
  unfold atI
  rw [e]
  show (xs ++ [v])[xs.length]? = some v
  simp
def PlainIx (b : Expr) : Prop := ∀ o i, subscripted b false o i = operate [o, i] (getItem o i)
def IxR (X : Cx) (r : R2) : Prop :=
  ∀ (value slice : Expr) (pins : List (Addr × Obj)) (s : Shared) (σ : St) (H : Hp) (x y : V) (v u : Value) (Q : VK), Inv X pins σ H s → RelV x v → RelV y u → r x y H Q →
    subscripted slice false v u = operate [v, u] (getItem v u) → wpAny (model X.prog X.w) X.A (subscriptTail value slice v u) (EP X pins σ Q) X.xe s
def MtR (X : Cx) (id : String) (r : V → List V → Hp → VK → Prop) : Prop :=
  ∀ (pins : List (Addr × Obj)) (s : Shared) (σ : St) (H : Hp) (x : V) (xs : List V) (v : Value) (us : List Value) (Q : VK), Inv X pins σ H s → RelV x v → Vals xs us → r x xs H Q →
    wpAny (model X.prog X.w) X.A (call (.builtin id) (v :: us)) (EP X pins σ Q) X.xe s
section
variable {X : Cx} {a b : Expr} {ta tb : TE} {pos : Pos}
theorem pe_ix {r : R2} (hr : IxR X r) (ha : PE X a ta) (hb : PE X b tb) (hs : PlainIx b) : PE X (.Subscript a b pos) (tOp r ta tb) := by
  intro pins s σ H Q I h
  exact Subscript_ (binT ha hb I h fun v u s2 x y H2 I2 rx ry q => hr a b pins s2 σ H2 x y v u Q I2 rx ry q (hs _ _))
def rIxL (K : PySem.W.Frag) : R2 := fun x y H Q => ∃ p xs i v, x = .ref p ∧ y = .int i ∧ SqL K H p xs ∧ atI xs i = some v ∧ Q v H
def rIxT (K : PySem.W.Frag) : R2 := fun x y H Q => ∃ p xs i v, x = .ref p ∧ y = .int i ∧ SqT K H p xs ∧ atI xs i = some v ∧ Q v H
def rIxS : R2 := fun x y H Q => ∃ z i c, x = .str z ∧ y = .int i ∧ z.length ≤ sizeLine ∧ atI z.cps.toList i = some c ∧ Q (.str ⟨#[c]⟩) H
theorem ix_list : IxR X (rIxL X.K) := by
  intro value slice pins s σ H x y v u Q I rx ry h hs
  obtain ⟨p, xs, i, z, rfl, rfl, hq, he, q⟩ := h
  cases rx
  obtain ⟨t, rfl⟩ := ry
  obtain ⟨its, r, pl, hz⟩ := I.list hq
  obtain ⟨j, h1, h2, h3, h4, h5⟩ := atI_get he
  obtain ⟨w, ew, rw'⟩ := r.get h2
  have hl := r.length
  have hn := line63
  have fin : EP X pins σ Q w s := ⟨z, H, I, rw', q⟩
  by_cases h0 : 0 ≤ i
  · have hj : i.toNat = j := by
      rw [seqIndex_of h0 h5] at h1
      exact Option.some.inj h1
    exact item_listR pl.isList h0 (by omega) (by rw [hj]; simpa using ew) fin hs
  · have hj : (i + (its.toArray.size : Int)).toNat = j := by
      rw [seqIndex_neg (by omega) h4] at h1
      rw [List.size_toArray, ← hl]
      exact Option.some.inj h1
    exact subscriptTail_builtinR (x := w) pl.isList.typeIs slot_list_getitem.lookup
      (wpAny_getItem_list_neg (Q := fun r s' => r = w ∧ EP X pins σ Q r s') pl.isList (by omega) (by rw [List.size_toArray] <;> omega) (by omega) (by rw [hj]; simpa using ew) ⟨rfl, fin⟩) hs
theorem ix_tup : IxR X (rIxT X.K) := by
  intro value slice pins s σ H x y v u Q I rx ry h hs
  obtain ⟨p, xs, i, z, rfl, rfl, hq, he, q⟩ := h
  cases rx
  obtain ⟨t, rfl⟩ := ry
  obtain ⟨its, r, pl, hz⟩ := I.tuple hq
  obtain ⟨j, h1, h2, h3, h4, h5⟩ := atI_get he
  obtain ⟨w, ew, rw'⟩ := r.get h2
  have hl := r.length
  have hn := line63
  have fin : EP X pins σ Q w s := ⟨z, H, I, rw', q⟩
  exact subscriptTail_builtinR (x := w) pl.typeIs slot_tuple_getitem.lookup
    (getItem_tuple (j := j) (Q := fun r s' => r = w ∧ EP X pins σ Q r s') pl (by omega) (by omega) (by rw [List.size_toArray, ← hl]; exact h1) (by simpa using ew) ⟨rfl, fin⟩) hs
theorem ix_str : IxR X rIxS := by
  intro value slice pins s σ H x y v u Q I rx ry h hs
  obtain ⟨z, i, c, rfl, rfl, hz, he, q⟩ := h
  obtain ⟨t, rfl⟩ := rx
  obtain ⟨t', rfl⟩ := ry
  obtain ⟨j, h1, h2, h3, h4, h5⟩ := atI_get he
  have hl : z.cps.toList.length = z.length := by simp [Str.length]
  rw [hl] at h1 h4 h5
  have hn := line63
  exact tail_any (typeIs_str s z t) slot_str_getitem.lookup (getItem_str (c := c) (by
    have e1 : decide (i < -(2 ^ 63 : Int)) = false := decide_eq_false (by omega)
    have e2 : decide (i ≥ 2 ^ 63) = false := decide_eq_false (by omega)
    rw [e1, e2, Bool.or_false]) (by rw [h1]; simpa using h2) ⟨.str ⟨#[c]⟩, H, I.tok _, ⟨_, rfl⟩, q⟩) hs
theorem mapSeq_set (its : List Value) (n j : Nat) (u : Value) : Obj.mapSeq (·.setIfInBounds j u) { cls := .type "list", data := .seq its.toArray n } = { cls := .type "list", data := .seq (its.set j u).toArray n } := by
  simp [Obj.mapSeq]
theorem Inv.lst {pins : List (Addr × Obj)} {σ : St} {H : Hp} {s : Shared} {p : Addr} {xs : List V} (I : Inv X pins σ H s) (h : H p = some (.lst xs)) :
    ∃ (its : List Value) (n : Nat), Vals xs its ∧ s.heap.get? p = some { cls := .type "list", data := .seq its.toArray n } ∧ xs.length ≤ sizeLine := by
  obtain ⟨z, its, n, r, e⟩ := I.hok p _ h
  exact ⟨its, n, r, e, z⟩
theorem Inv.lstUpd {pins : List (Addr × Obj)} {σ : St} {H : Hp} {s : Shared} {p : Addr} {xs ys : List V} {its its' : List Value} {n n' : Nat} {f : Obj → Obj} (I : Inv X pins σ H s) (h : H p = some (.lst xs))
    (ho : s.heap.get? p = some { cls := .type "list", data := .seq its.toArray n }) (hf : f { cls := .type "list", data := .seq its.toArray n } = { cls := .type "list", data := .seq its'.toArray n' }) (r : Vals ys its') (hz : ys.length ≤ sizeLine) (t : Nat) :
    Inv X pins σ (upd H p (.lst ys)) { s with heap := s.heap.update p f, toks := t } := by
  have e : (s.heap.update p f).get? p = some { cls := .type "list", data := .seq its'.toArray n' } := by
    rw [Heap.get?_update_self f ho (by rw [hf] <;> rfl), hf]
  refine I.write (x := p) (e := p) (by rw [h]; trivial) (.inl rfl) (fun b u hb q => (Heap.get?_update_other _ _ (Ne.symm hb)).trans q) ⟨_, e⟩ ?_
  exact ⟨hz, its', n', r, e⟩
def rSetL : V → V → V → Hp → (Hp → Prop) → Prop := fun o i v H Q => ∃ p xs k j, o = .ref p ∧ i = .int k ∧ H p = some (.lst xs) ∧ ixN xs.length k = some j ∧ Q (upd H p (.lst (xs.set j v)))
theorem set_list : PSet X rSetL := by
  intro pins s σ H o i v ov iv u Q I ro ri rv h
  obtain ⟨p, xs, k, j, rfl, rfl, hp, hj, q⟩ := h
  cases ro
  obtain ⟨t, rfl⟩ := ri
  obtain ⟨its, n, r, ho, hz⟩ := I.lst hp
  obtain ⟨h1, h2, h3, h4⟩ := ixN_seq hj
  have hl := r.length
  have hn := line63
  have I' : Inv X pins σ (upd H p (.lst (xs.set j v))) { s with heap := s.heap.update p (Obj.mapSeq (·.setIfInBounds j u)) } :=
    I.lstUpd hp ho (mapSeq_set its n j u) (r.set rv j) (by rw [List.length_set]; exact hz) s.toks
  by_cases h0 : 0 ≤ k
  · have hk : k.toNat = j := by
      rw [seqIndex_of h0 h4] at h1
      exact Option.some.inj h1
    exact PySem.W.ki_setAt ho h0 (by omega) (by rw [List.size_toArray, ← hl]; exact h4) (by rw [hk]; exact ⟨_, I', q⟩)
  · have hk : (k + (its.toArray.size : Int)).toNat = j := by
      rw [seqIndex_neg (by omega) h3] at h1
      rw [List.size_toArray, ← hl]
      exact Option.some.inj h1
    exact PySem.W.ki_setBack ho (by omega) (by rw [List.size_toArray, ← hl]; exact h3) (by omega) (by rw [hk]; exact ⟨_, I', q⟩)
theorem slice_bounds (lo hi : Option Int) (n : Nat) : (sliceBounds lo hi none n).1 = ((HT.sIx n 0 lo : Nat) : Int) ∧ (sliceBounds lo hi none n).2.1 = ((HT.sIx n n hi : Nat) : Int) ∧ (sliceBounds lo hi none n).2.2 = 1 := by
  refine ⟨?_, ?_, rfl⟩
  · cases lo with
    | none => simp [sliceBounds, HT.sIx]
    | some i =>
      simp only [sliceBounds, HT.sIx, Option.getD_none, show (1 : Int) > 0 by decide, if_true]
      by_cases h : i < 0
      · simp only [h, if_true] <;> omega
      · simp only [h, if_false] <;> omega
  · cases hi with
    | none => simp [sliceBounds, HT.sIx]
    | some i =>
      simp only [sliceBounds, HT.sIx, Option.getD_none, show (1 : Int) > 0 by decide, if_true]
      by_cases h : i < 0
      · simp only [h, if_true] <;> omega
      · simp only [h, if_false] <;> omega
theorem slicePick_cut (its : List Value) (lo hi : Option Int) : slicePick its.toArray lo hi none = ((its.drop (HT.sIx its.length 0 lo)).take (HT.sIx its.length its.length hi - HT.sIx its.length 0 lo)).toArray := by
  obtain ⟨h1, h2, h3⟩ := slice_bounds lo hi its.toArray.size
  unfold slicePick
  rw [h1, h2, h3]
  simp only [sliceRange_one, pick_run, List.size_toArray] <;> rfl
def rSlL (K : PySem.W.Frag) : V → Option Int → Option Int → Hp → VK → Prop := fun x lo hi H Q => ∃ a xs, x = .ref a ∧ SqL K H a xs ∧ ∀ p, H p = none → Q (.ref p) (upd H p (.lst (cutV xs lo hi)))
theorem sl_list : SlR X (rSlL X.K) := by
  intro pins s σ H x v vl vu lo hi sl Q I rx hs pl pu h
  obtain ⟨a, xs, rfl, hx, q⟩ := h
  cases rx
  obtain ⟨its, r, ht, hz⟩ := I.list hx
  have hlen := r.length
  refine ⟨"list", _, slot_list_getitem.lookup, ht.isList.typeIs, ?_⟩
  refine wpAny_getItem_list_slice ht.isList hs pl pu .none (by simp) ?_ (by rw [List.size_toArray] <;> omega)
  rw [slicePick_cut, ← hlen]
  refine ⟨.ref s.heap.objs.size, _, I.laid (t' := s.toks) (o := .lst (cutV xs lo hi)) (fun b ob q => Heap.get?_push_of_some _ q) (Nat.le_refl _) ?_, rfl, q _ (I.hok.fresh (Nat.le_refl _))⟩
  exact ⟨Nat.le_trans (cutV_length xs lo hi) hz, _, 0, (r.drop (HT.sIx xs.length 0 lo)).take (HT.sIx xs.length xs.length hi - HT.sIx xs.length 0 lo), Heap.get?_push_size _ rfl⟩
def flatV : V → Bool
  | .non => true
  | .bl _ => true
  | .int _ => true
  | .str _ => true
  | _ => false
def eqV : V → V → Bool
  | .non, .non => true
  | .bl a, .bl b => a == b
  | .bl a, .int b => (if a then 1 else 0) == b
  | .int a, .bl b => a == (if b then 1 else 0)
  | .int a, .int b => a == b
  | .str a, .str b => a == b
  | _, _ => false
theorem eqAt_V {A : Around} {s : Shared} {y x : V} {u v : Value} (ry : RelV y u) (rx : RelV x v) (fy : flatV y = true) (fx : flatV x = true) : SeqAt.EqAt A s u v (eqV y x) := by
  cases y with
  | non =>
    cases ry
    cases x with
    | non => cases rx; exact SeqAt.EqAt.same _
    | bl b => cases rx; exact SeqAt.EqAt.none_bool b
    | int b => obtain ⟨t, rfl⟩ := rx; exact SeqAt.EqAt.none_int b t
    | str b => obtain ⟨t, rfl⟩ := rx; exact SeqAt.EqAt.none_str b t
    | _ => exact absurd (show false = true from fx) Bool.false_ne_true
  | bl a =>
    cases ry
    cases x with
    | non => cases rx; exact SeqAt.EqAt.bool_none a
    | bl b => cases rx; exact SeqAt.EqAt.bool_bool a b
    | int b => obtain ⟨t, rfl⟩ := rx; exact SeqAt.EqAt.bool_int a b t
    | str b => obtain ⟨t, rfl⟩ := rx; exact SeqAt.EqAt.bool_str a b t
    | _ => exact absurd (show false = true from fx) Bool.false_ne_true
  | int a =>
    obtain ⟨t', rfl⟩ := ry
    cases x with
    | non => cases rx; exact SeqAt.EqAt.int_none a t'
    | bl b => cases rx; exact SeqAt.EqAt.int_bool a t' b
    | int b => obtain ⟨t, rfl⟩ := rx; exact SeqAt.EqAt.int_int a t' b t
    | str b => obtain ⟨t, rfl⟩ := rx; exact SeqAt.EqAt.int_str a t' b t
    | _ => exact absurd (show false = true from fx) Bool.false_ne_true
  | str a =>
    obtain ⟨t', rfl⟩ := ry
    cases x with
    | non => cases rx; exact SeqAt.EqAt.str_none a t'
    | bl b => cases rx; exact SeqAt.EqAt.str_bool a t' b
    | int b => obtain ⟨t, rfl⟩ := rx; exact SeqAt.EqAt.str_int a t' b t
    | str b => obtain ⟨t, rfl⟩ := rx; exact SeqAt.EqAt.str_str a t' b t
    | _ => exact absurd (show false = true from fx) Bool.false_ne_true
  | _ => exact absurd (show false = true from fy) Bool.false_ne_true
def eqU (x : V) (u : Value) : Bool := match u with
  | .none => eqV .non x
  | .bool b => eqV (.bl b) x
  | .int i _ => eqV (.int i) x
  | .str z _ => eqV (.str z) x
  | _ => false
theorem eqU_of {x y : V} {u : Value} (r : RelV y u) (f : flatV y = true) : eqU x u = eqV y x := by
  cases y with
  | non => cases r; rfl
  | bl b => cases r; rfl
  | int i => obtain ⟨t, rfl⟩ := r; rfl
  | str z => obtain ⟨t, rfl⟩ := r; rfl
  | _ => exact absurd (show false = true from f) Bool.false_ne_true
theorem any_eqU {x : V} : ∀ {xs : List V} {us : List Value}, Vals xs us → xs.all flatV = true → us.any (eqU x) = xs.any fun y => eqV y x
  | _, _, .nil, _ => rfl
  | y :: xs, u :: us, .cons r t, f => by
    rw [List.all_cons, Bool.and_eq_true] at f
    rw [List.any_cons, List.any_cons, eqU_of r f.1, any_eqU t f.2]
theorem mem_eqAt {A : Around} {s : Shared} {x : V} {v : Value} (rx : RelV x v) (fx : flatV x = true) : ∀ {xs : List V} {us : List Value}, Vals xs us → xs.all flatV = true → ∀ u ∈ us, SeqAt.EqAt A s u v (eqU x u)
  | _, _, .nil, _ => fun u hu => by cases hu
  | y :: xs, u :: us, .cons r t, f => fun u' hu => by
    rw [List.all_cons, Bool.and_eq_true] at f
    rcases List.mem_cons.mp hu with rfl | hu
    · rw [eqU_of r f.1]; exact eqAt_V r rx f.1 fx
    · exact mem_eqAt rx fx t f.2 u' hu
def inV (x : V) (xs : List V) : Bool := xs.any fun y => eqV y x
def rIn (K : PySem.W.Frag) (neg : Bool) : R2 := fun x y H Q => ∃ p xs, y = .ref p ∧ (SqL K H p xs ∨ SqT K H p xs) ∧ flatV x = true ∧ xs.all flatV = true ∧ Q (.bl (if neg then !inV x xs else inV x xs)) H
theorem op_in_seq : OpR X (compareOp .In) (rIn X.K false) := by
  intro pins s σ H x y v u Q I rx ry h
  obtain ⟨p, xs, rfl, hq, fx, fs, q⟩ := h
  cases ry
  rcases hq with hq | hq
  · obtain ⟨its, r, pl, hz⟩ := I.list hq
    refine SeqAt.in_listAt (eqU x) pl.isList (fun w hw => mem_eqAt rx fx r fs w (by simpa using hw)) ⟨.bl _, H, I, rfl, ?_⟩
    rw [show its.toArray.any (eqU x) = its.any (eqU x) by simp, any_eqU r fs]
    exact q
  · obtain ⟨its, r, pl, hz⟩ := I.tuple hq
    refine SeqAt.in_tupleAt (eqU x) pl (fun w hw => mem_eqAt rx fx r fs w (by simpa using hw)) ⟨.bl _, H, I, rfl, ?_⟩
    rw [show its.toArray.any (eqU x) = its.any (eqU x) by simp, any_eqU r fs]
    exact q
theorem op_notIn_seq : OpR X (compareOp .NotIn) (rIn X.K true) := by
  intro pins s σ H x y v u Q I rx ry h
  obtain ⟨p, xs, rfl, hq, fx, fs, q⟩ := h
  cases ry
  rcases hq with hq | hq
  · obtain ⟨its, r, pl, hz⟩ := I.list hq
    refine SeqAt.notIn_listAt (eqU x) pl.isList (fun w hw => mem_eqAt rx fx r fs w (by simpa using hw)) ⟨.bl _, H, I, rfl, ?_⟩
    rw [show its.toArray.any (eqU x) = its.any (eqU x) by simp, any_eqU r fs]
    exact q
  · obtain ⟨its, r, pl, hz⟩ := I.tuple hq
    refine SeqAt.notIn_tupleAt (eqU x) pl (fun w hw => mem_eqAt rx fx r fs w (by simpa using hw)) ⟨.bl _, H, I, rfl, ?_⟩
    rw [show its.toArray.any (eqU x) = its.any (eqU x) by simp, any_eqU r fs]
    exact q
theorem call_len_seq : CallR X (.builtin "len") (fun xs H Q => ∃ p ys, xs = [.ref p] ∧ (SqL X.K H p ys ∨ SqT X.K H p ys) ∧ Q (.int ys.length) H) := by
  intro pins s σ H xs us Q I r h
  obtain ⟨p, ys, rfl, hq, q⟩ := h
  obtain ⟨u, rfl, rx⟩ := vals1 r
  cases rx
  have hn := line63
  rcases hq with hq | hq
  · obtain ⟨its, r', pl, hz⟩ := I.list hq
    have hlen := r'.length
    exact Calls.call_len_list pl.isList (by simp only [List.size_toArray] <;> omega) ⟨.int ys.length, H, I.tok _, ⟨s.toks + 1, by rw [List.size_toArray, hlen]⟩, q⟩
  · obtain ⟨its, r', pl, hz⟩ := I.tuple hq
    have hlen := r'.length
    exact len_tuple pl (by simp only [List.size_toArray] <;> omega) ⟨.int ys.length, H, I.tok _, ⟨s.toks + 1, by rw [List.size_toArray, hlen]⟩, q⟩
theorem call_len_str : CallR X (.builtin "len") (fun xs H Q => ∃ z, xs = [.str z] ∧ z.length ≤ sizeLine ∧ Q (.int z.length) H) := by
  intro pins s σ H xs us Q I r h
  obtain ⟨z, rfl, hz, q⟩ := h
  obtain ⟨u, rfl, t, rfl⟩ := vals1 r
  have hn := line63
  exact len_str (by omega) ⟨.int z.length, H, I.tok _, ⟨_, rfl⟩, q⟩
theorem call_list_of : CallR X (.type "list") (fun xs H Q => ∃ p ys, xs = [.ref p] ∧ (SqL X.K H p ys ∨ SqT X.K H p ys) ∧ ∀ l, H l = none → Q (.ref l) (upd H l (.lst ys))) := by
  intro pins s σ H xs us Q I r h
  obtain ⟨p, ys, rfl, hq, q⟩ := h
  obtain ⟨u, rfl, rx⟩ := vals1 r
  cases rx
  have fin : ∀ (its : List Value), Vals ys its → ys.length ≤ sizeLine → ∀ (h' : Heap) (c' : Nat), (∀ b o', s.heap.get? b = some o' → h'.get? b = some o') →
      h'.get? s.heap.objs.size = some { cls := .type "list", dict := none, data := .seq its.toArray c', slots := #[] } → EP X pins σ Q (.ref s.heap.objs.size) { s with heap := h' } := fun its r' hz h' c' kp e =>
    ⟨.ref s.heap.objs.size, _, I.laid (t' := s.toks) kp (Nat.le_refl _) (show ObjOk X.prog X.w _ h' _ (.lst ys) from ⟨hz, its, c', r', e⟩), rfl, q _ (I.hok.fresh (Nat.le_refl _))⟩
  rcases hq with hq | hq
  · obtain ⟨its, r', pl, hz⟩ := I.list hq
    have hlen := r'.length
    obtain ⟨o, ho, hc, n, hd⟩ := pl.isList
    exact call_list_seq p (.inl rfl) ho hc hd (fun h' c' kp e => fin its r' hz h' c' kp e) (by simp only [List.size_toArray] <;> omega)
  · obtain ⟨its, r', pl, hz⟩ := I.tuple hq
    have hlen := r'.length
    obtain ⟨o, ho, hc, n, hd⟩ := pl
    exact call_list_seq p (.inr rfl) ho hc hd (fun h' c' kp e => fin its r' hz h' c' kp e) (by simp only [List.size_toArray] <;> omega)
theorem call_tuple_of : CallR X (.type "tuple") (fun xs H Q => ∃ p ys, xs = [.ref p] ∧ ((SqL X.K H p ys ∧ ∀ l, H l = none → Q (.ref l) (upd H l (.tup ys))) ∨ (SqT X.K H p ys ∧ Q (.ref p) H))) := by
  intro pins s σ H xs us Q I r h
  obtain ⟨p, ys, rfl, h⟩ := h
  obtain ⟨u, rfl, rx⟩ := vals1 r
  cases rx
  rcases h with ⟨hq, q⟩ | ⟨hq, q⟩
  · obtain ⟨its, r', pl, hz⟩ := I.list hq
    have hlen := r'.length
    refine call_tuple_list pl.isList (fun h' kp => ?_) (by simp only [List.size_toArray] <;> omega)
    have I1 : Inv X pins σ H { s with heap := h' } := I.kept (t' := s.toks) kp
    have I2 : Inv X pins σ (upd H h'.objs.size (.tup ys)) { s with heap := h'.push { cls := .type "tuple", data := .seq its.toArray } } :=
      I1.laid (t' := s.toks) (fun b o e => Heap.get?_push_of_some _ e) (Nat.le_refl _) (show ObjOk X.prog X.w _ _ _ (.tup ys) from ⟨hz, its, r', IsTup.new _ _⟩)
    exact ⟨.ref h'.objs.size, _, I2, rfl, q _ (I1.hok.fresh (Nat.le_refl _))⟩
  · obtain ⟨its, r', pl, hz⟩ := I.tuple hq
    exact call_tuple_same pl ⟨.ref p, H, I, rfl, q⟩
def tyV (K : PySem.W.Frag) (T : String) (x : V) (H : Hp) : Prop := match x with
  | .str _ => T = "str"
  | .int _ => T = "int"
  | .ref p => (T = "list" ∧ ∃ xs, SqL K H p xs) ∨ (T = "tuple" ∧ ∃ o, K.lookup p = some o ∧ o.cls = .type "tuple" ∧ o.dict = none) ∨
      (T = "dict" ∧ ((∃ kvs, H p = some (.dK kvs)) ∨ ∃ kvs, H p = some (.dT kvs))) ∨ (T = "set" ∧ ∃ S n, H p = some (.set S n))
  | _ => False
theorem tyV_is {pins : List (Addr × Obj)} {σ : St} {H : Hp} {s : Shared} {T : String} {x : V} {v : Value} (I : Inv X pins σ H s) (r : RelV x v) (ty : tyV X.K T x H) :
    s.TypeIs v T ∧ ∀ a, v = .ref a → ∃ ob, s.heap.get? a = some ob ∧ ob.dict = none := by
  cases x with
  | str z =>
    obtain ⟨t, rfl⟩ := r
    cases (show T = "str" from ty)
    exact ⟨typeIs_str s z t, fun _ e => nomatch e⟩
  | int i =>
    obtain ⟨t, rfl⟩ := r
    cases (show T = "int" from ty)
    exact ⟨typeIs_int s i t, fun _ e => nomatch e⟩
  | ref p =>
    cases r
    rcases ty with ⟨rfl, xs, hq⟩ | ⟨rfl, o, hk, hc, hd⟩ | ⟨rfl, hk⟩ | ⟨rfl, S, n, hk⟩
    · obtain ⟨its, _, pl, _⟩ := I.list hq
      refine ⟨pl.isList.typeIs, fun a e => ?_⟩
      cases e
      obtain ⟨o, n, e, c, hd, _⟩ := pl
      exact ⟨o, e, hd⟩
    · refine ⟨⟨o, I.kIn p o hk, hc⟩, fun a e => ?_⟩
      cases e
      exact ⟨o, I.kIn _ o hk, hd⟩
    · have z : ∃ o, s.heap.get? p = some o ∧ o.ExactDict := by
        rcases hk with ⟨kvs, hk⟩ | ⟨kvs, hk⟩
        · obtain ⟨_, _, _, _, o, _, _, e, ex, _⟩ := I.hok p _ hk
          exact ⟨o, e, ex⟩
        · obtain ⟨_, _, _, _, o, _, _, e, ex, _⟩ := I.hok p _ hk
          exact ⟨o, e, ex⟩
      obtain ⟨o, e, ex⟩ := z
      refine ⟨⟨o, e, ex.1⟩, fun a e2 => ?_⟩
      cases e2
      exact ⟨o, e, ex.2.1⟩
    · obtain ⟨o, _, _, _, e, ex, _⟩ := I.hok p _ hk
      refine ⟨⟨o, e, ex.1⟩, fun a e2 => ?_⟩
      cases e2
      exact ⟨o, e, ex.2.1⟩
  | _ => exact False.elim ty
def tBM0 (K : PySem.W.Frag) (T : String) (r : V → List V → Hp → VK → Prop) (to : TE) : TE := fun σ H Q => to σ H fun x H1 => tyV K T x H1 ∧ r x [] H1 Q
def tBM (K : PySem.W.Frag) (T : String) (r : V → List V → Hp → VK → Prop) (to : TE) (t : TA) : TE := fun σ H Q => to σ H fun x H1 => tyV K T x H1 ∧ t σ H1 fun xs H2 => r x xs H2 Q
variable {o e : Expr} {es : List Expr} {to : TE} {t : TA} {name : Str} {apos cpos : Pos} {T id : String} {r : V → List V → Hp → VK → Prop}
theorem pe_bm0 (pa : PlainAttrs T) (slot : Slot T name id) (hty : typeOf (.builtin id) = pure (.type "method_descriptor")) (hm : MtR X id r) (ho : PE X o to)
    (hbase : attributeBase o name X.env (eval o X.env) = eval o X.env := by rfl) (hline : (apos.endLine == cpos.line) = true := by rfl) : PE X (.Call (.Attribute o name apos) [] [] cpos) (tBM0 X.K T r to) := by
  intro pins s σ H Q I h
  refine wpAny_Call_method0_late hbase hline (thn (ho pins s σ H _ I h) fun v s1 ⟨x, H1, I1, r1, ty, q1⟩ => ?_)
  obtain ⟨h1, h2⟩ := tyV_is I1 r1 ty
  exact ⟨T, id, pa, slot, hty, h1, h2, Calls.callWith_builtin rfl (PySem.evalArgs_none (hm pins s1 σ H1 x [] v [] Q I1 r1 .nil q1))⟩
theorem pe_bm (pa : PlainAttrs T) (slot : Slot T name id) (hty : typeOf (.builtin id) = pure (.type "method_descriptor")) (hm : MtR X id r) (ho : PE X o to) (ha : PA X (e :: es) t)
    (hbase : attributeBase o name X.env (eval o X.env) = eval o X.env := by rfl)
    (hfew : ((backTo cpos (starEach (e :: es) X.env)).all (fun x => !x.1) && (backToKw cpos (keywordEach [] X.env)).all (fun x => x.1.isSome)
      && decide ((e :: es).length + ([] : List Keyword).length + (if ([] : List Keyword).isEmpty then 0 else 1) < 30)) = true := by rfl)
    (hline : (apos.endLine == cpos.line) = true := by rfl) (hs : starEach (e :: es) X.env = (false, eval e X.env) :: starEach es X.env := by rfl) (hplain : (backTo cpos (starEach es X.env)).any (·.1) = false := by rfl) :
    PE X (.Call (.Attribute o name apos) (e :: es) [] cpos) (tBM X.K T r to t) := by
  intro pins s σ H Q I h
  refine wpAny_Call_method_late hbase hfew hline rfl (thn (ho pins s σ H _ I h) fun v s1 ⟨x, H1, I1, r1, ty, q1⟩ => ?_)
  obtain ⟨h1, h2⟩ := tyV_is I1 r1 ty
  refine ⟨T, id, pa, slot, hty, h1, h2, ?_⟩
  have hA := ha cpos pins s1 σ H1 _ I1 q1
  rw [hs] at hA ⊢
  refine Calls.callWith_builtin (by show (false || (backTo cpos (starEach es X.env)).any (·.1)) = false; rw [hplain] <;> rfl) (Calls.evalArgs_plain ?_)
  exact thn hA fun us s2 ⟨vs, H2, I2, r2, q2⟩ => hm pins s2 σ H2 x vs v us Q I2 r1 r2 q2
end
end L2
namespace L2
open PySem PySem.Spec PyProof.Rows
def MtM (X : Cx) (id : String) (r : V → List V → Hp → VK → Prop) : Prop :=
  ∀ (pins : List (Addr × Obj)) (s : Shared) (σ : St) (H : Hp) (x : V) (xs : List V) (v : Value) (us : List Value) (Q : VK), Inv X pins σ H s → RelV x v → Vals xs us → r x xs H Q →
    wpAny (model X.prog X.w) X.A (call (.builtin id) (v :: us)) (EP X pins σ Q) X.xe s
theorem Vals.one : ∀ {x : V} {us : List Value}, Vals [x] us → ∃ u, us = [u] ∧ RelV x u
  | _, _, .cons r .nil => ⟨_, rfl, r⟩
theorem Vals.zero : ∀ {us : List Value}, Vals [] us → us = []
  | _, .nil => rfl
theorem Vals.dropLast {xs : List V} {us : List Value} (h : Vals xs us) : Vals xs.dropLast us.dropLast := by
  induction h with
  | nil => exact .nil
  | cons r t ih =>
    cases t with
    | nil => exact .nil
    | cons q t' => exact .cons r ih
theorem Vals.rep {xs : List V} {us : List Value} (h : Vals xs us) : ∀ k : Nat, Vals (List.replicate k xs).flatten (List.replicate k us).flatten
  | 0 => .nil
  | k + 1 => by
    rw [List.replicate_succ, List.replicate_succ, List.flatten_cons, List.flatten_cons]
    exact Vals.append h (Vals.rep h k)
theorem erase_last {α : Type} (l : List α) : l.eraseIdx (l.length - 1) = l.dropLast := by
  induction l with
  | nil => rfl
  | cons a r ih =>
    cases r with
    | nil => rfl
    | cons b r =>
      have e : (a :: b :: r).length - 1 = ((b :: r).length - 1) + 1 := by
        have h1 : (a :: b :: r).length = r.length + 2 := rfl
        have h2 : (b :: r).length = r.length + 1 := rfl
        omega
      rw [e, List.eraseIdx_cons_succ, ih]
      all_goals rfl
theorem foldl_rep (its : List Value) : ∀ (k : Nat) (acc : List Value),
    List.foldl (fun x1 x2 => x1 ++ x2) acc.toArray (List.replicate k its.toArray) = (acc ++ (List.replicate k its).flatten).toArray
  | 0, acc => by simp
  | k + 1, acc => by
    have e : acc.toArray ++ its.toArray = (acc ++ its).toArray := by simp
    have e2 : (acc ++ its) ++ (List.replicate k its).flatten = acc ++ (List.replicate (k + 1) its).flatten := by
      rw [List.replicate_succ, List.flatten_cons, List.append_assoc]
    rw [← e2, ← foldl_rep its k (acc ++ its), ← e, List.replicate_succ, List.foldl_cons]
section
variable {X : Cx} {pins : List (Addr × Obj)} {σ : St} {H : Hp} {s : Shared} {l b : Addr} {xs ys zs : List V}
theorem Inv.lset {its its' : List Value} {n : Nat} {f : Array Value → Array Value} {t' : Nat} (I : Inv X pins σ H s) (hH : H l = some (.lst xs))
    (e : s.heap.get? l = some { cls := .type "list", data := .seq its.toArray n }) (hf : f its.toArray = its'.toArray) (hv : Vals ys its') (hz : ys.length ≤ sizeLine) :
    Inv X pins σ (upd H l (.lst ys)) { s with heap := s.heap.update l (Obj.mapSeq f), toks := t' } := by
  have q := PySem.IsL.update e f
  rw [hf] at q
  refine I.write (x := l) (e := l) (by rw [hH]; exact trivial) (.inl rfl) (fun b' u hb hu => (Heap.get?_update_other s.heap (Obj.mapSeq f) (Ne.symm hb)).trans hu) ⟨_, q⟩ ?_
  exact ⟨hz, its', _, hv, q⟩
theorem Inv.lnew {its : List Value} {t' : Nat} (I : Inv X pins σ H s) (hv : Vals ys its) (hz : ys.length ≤ sizeLine) :
    Inv X pins σ (upd H s.heap.objs.size (.lst ys)) { s with heap := s.heap.push { cls := .type "list", data := .seq its.toArray }, toks := t' } :=
  I.laid (fun _ _ q => Heap.get?_push_of_some _ q) (Nat.le_refl _) ⟨hz, its, 0, hv, Heap.get?_push_size _ rfl⟩
theorem Inv.fresh (I : Inv X pins σ H s) : H s.heap.objs.size = none := I.hok.fresh (Nat.le_refl _)
theorem Inv.lstM (I : Inv X pins σ H s) (hH : H l = some (.lst xs)) : xs.length ≤ sizeLine ∧ ∃ (its : List Value) (n : Nat), Vals xs its ∧ xs.length = its.length ∧ s.heap.get? l = some { cls := .type "list", data := .seq its.toArray n } := by
  obtain ⟨z, its, n, r, e⟩ := I.hok l _ hH
  exact ⟨z, its, n, r, r.length, e⟩
theorem notLongL {n : Nat} (h : n ≤ sizeLine) : Builtin.List.listTooLong n = false := by
  unfold Builtin.List.listTooLong
  exact decide_eq_false (by omega)
end
section
variable {X : Cx}
def rAppend : V → List V → Hp → VK → Prop := fun x vs H Q => ∃ l xs y, x = .ref l ∧ vs = [y] ∧ H l = some (.lst xs) ∧ xs.length < sizeLine ∧ Q .non (upd H l (.lst (xs ++ [y])))
theorem mt_append : MtM X "list.append" rAppend := by
  intro pins s σ H x vs v us Q I rx rv h
  obtain ⟨l, xs, y, rfl, rfl, hH, hz, q⟩ := h
  cases rx
  obtain ⟨u, rfl, ru⟩ := rv.one
  obtain ⟨z, its, n, r, hl, e⟩ := I.lstM hH
  refine call_meets F.slot_list_append ⟨_, e, rfl⟩ F.entry_list_append (F.args_list_append_2 _ _) (PySem.list_append l its.toArray n u (by rw [List.size_toArray]; omega)) ⟨e, ?_⟩
  refine ⟨.non, _, I.lset (its' := its ++ [u]) hH e (by simp) (r.append (.cons ru .nil)) ?_, rfl, q⟩
  rw [List.length_append, List.length_singleton]
  omega
def rExtend : V → List V → Hp → VK → Prop := fun x vs H Q => ∃ l b xs zs, x = .ref l ∧ vs = [.ref b] ∧ H l = some (.lst xs) ∧ H b = some (.lst zs) ∧ xs.length + zs.length ≤ sizeLine ∧ Q .non (upd H l (.lst (xs ++ zs)))
theorem mt_extend : MtM X "list.extend" rExtend := by
  intro pins s σ H x vs v us Q I rx rv h
  obtain ⟨l, b, xs, zs, rfl, rfl, hH, hB, hz, q⟩ := h
  cases rx
  obtain ⟨u, rfl, ru⟩ := rv.one
  cases ru
  obtain ⟨z, its, n, r, hl, e⟩ := I.lstM hH
  obtain ⟨z2, its2, n2, r2, hl2, e2⟩ := I.lstM hB
  have hsz : its.toArray.size + its2.toArray.size ≤ sizeLine := by rw [List.size_toArray, List.size_toArray]; omega
  have hlong : ¬ (!its.toArray.isEmpty && Builtin.List.listTooLong (its.toArray.size + its2.toArray.size)) = true := by
    rw [notLongL hsz, Bool.and_false]
    exact Bool.false_ne_true
  refine call_meets F.slot_list_extend ⟨_, e, rfl⟩ F.entry_list_extend (F.args_list_extend_2 _ _)
    (AutoSeq1.list_extend_list_list_0 l its.toArray n b its2.toArray n2 hlong (by rw [List.size_toArray]; omega) (by omega)) ⟨e, e2, ?_⟩
  refine ⟨.non, _, I.lset (its' := its ++ its2) hH e (by simp) (r.append r2) ?_, rfl, q⟩
  rw [List.length_append]
  omega
def rPop : V → List V → Hp → VK → Prop := fun x vs H Q => ∃ l xs y, x = .ref l ∧ vs = [] ∧ H l = some (.lst xs) ∧ xs[xs.length - 1]? = some y ∧ Q y (upd H l (.lst xs.dropLast))
theorem mt_pop : MtM X "list.pop" rPop := by
  intro pins s σ H x vs v us Q I rx rv h
  obtain ⟨l, xs, y, rfl, rfl, hH, hy, q⟩ := h
  cases rx
  have hus := rv.zero
  subst hus
  obtain ⟨z, its, n, r, hl, e⟩ := I.lstM hH
  obtain ⟨u, hu, ru⟩ := r.get hy
  have hy' : its.toArray[its.toArray.size - 1]? = some u := by
    show its.toArray[its.length - 1]? = some u
    rw [← Array.getElem?_toList, ← hl]
    exact hu
  refine call_meets F.slot_list_pop ⟨_, e, rfl⟩ F.entry_list_pop (F.args_list_pop_1 _) (MeetsSeq.list_pop_last l its.toArray n u hy' (by rw [List.size_toArray]; omega)) ⟨e, ?_⟩
  refine ⟨y, _, I.lset (its' := its.dropLast) hH e ?_ r.dropLast ?_, ru, q⟩
  · show its.toArray.eraseIdxIfInBounds (its.toArray.size - 1) = its.dropLast.toArray
    rw [List.size_toArray, List.eraseIdxIfInBounds_toArray, erase_last]
  · rw [List.length_dropLast]
    omega
def rCat : R2 := fun x y H Q => ∃ l b xs zs, x = .ref l ∧ y = .ref b ∧ H l = some (.lst xs) ∧ H b = some (.lst zs) ∧ xs.length + zs.length ≤ sizeLine ∧ ∀ p, H p = none → Q (.ref p) (upd H p (.lst (xs ++ zs)))
theorem op_cat : OpR X (binaryOp .Add) rCat := by
  intro pins s σ H x y v u Q I rx ry h
  obtain ⟨l, b, xs, zs, rfl, rfl, hH, hB, hz, q⟩ := h
  cases rx
  cases ry
  obtain ⟨z, its, n, r, hl, e⟩ := I.lstM hH
  obtain ⟨z2, its2, n2, r2, hl2, e2⟩ := I.lstM hB
  refine PySem.P.add_list e e2 ?_ (by rw [List.size_toArray, List.size_toArray]; omega)
  have ea : its.toArray ++ its2.toArray = (its ++ its2).toArray := by simp
  rw [ea]
  exact ⟨.ref _, _, I.lnew (t' := s.toks) (r.append r2) (by rw [List.length_append]; omega), rfl, q _ I.fresh⟩
theorem len_rep {α : Type} (xs : List α) (k : Nat) : (List.replicate k xs).flatten.length = k * xs.length := by
  induction k with
  | zero => simp
  | succ k ih => rw [List.replicate_succ, List.flatten_cons, List.length_append, ih, Nat.succ_mul, Nat.add_comm]
end
section
variable {prog : Program} {w : World} {A : Around} {E : Value → Shared → Prop} {s : Shared}
set_option maxRecDepth 100000 in
end
section
variable {X : Cx}
end
end L2
namespace L2
open PySem PySem.Spec PyProof.Rows
section
variable {κ : Type} [DecidableEq κ]
end
section
variable {P : Program} {w : World} {H : Hp} {h : Heap} {a : Addr}
end
section
variable {X : Cx} {pins : List (Addr × Obj)} {σ : St} {H : Hp} {s : Shared} {a : Addr} {y v : V} {u r : Value} {o : Option V} {A : Around} {E : Value → Shared → Prop}
end
section
variable {X : Cx} {pins : List (Addr × Obj)} {σ : St} {H : Hp} {s : Shared} {a : Addr} {kvs : List (Key × V)} {k : Key} {u : Value} {A : Around} {E : Value → Shared → Prop}
end
section
variable {X : Cx} {o i e value : Expr} {pos pos' tpos : Pos} {td ty tv : TE}
end
section
variable {X : Cx} {pos : Pos}
end
structure M1 (X : Cx) (o : Expr) (m : Str) (apos : Pos) (e : Expr) (cpos : Pos) : Prop where
  base : attributeBase o m X.env (eval o X.env) = eval o X.env
  few : ((backTo cpos (starEach [e] X.env)).all (fun x => !x.1) && (backToKw cpos (keywordEach [] X.env)).all (fun x => x.1.isSome)
    && decide (([e] : List Expr).length + ([] : List Keyword).length + (if ([] : List Keyword).isEmpty then 0 else 1) < 30)) = true
  line : (apos.endLine == cpos.line) = true
  trees : backTo cpos (starEach [e] X.env) = [(false, eval e X.env)]
structure M2 (X : Cx) (o : Expr) (m : Str) (apos : Pos) (e f : Expr) (cpos : Pos) : Prop where
  base : attributeBase o m X.env (eval o X.env) = eval o X.env
  few : ((backTo cpos (starEach [e, f] X.env)).all (fun x => !x.1) && (backToKw cpos (keywordEach [] X.env)).all (fun x => x.1.isSome)
    && decide (([e, f] : List Expr).length + ([] : List Keyword).length + (if ([] : List Keyword).isEmpty then 0 else 1) < 30)) = true
  line : (apos.endLine == cpos.line) = true
  trees : backTo cpos (starEach [e, f] X.env) = [(false, eval e X.env), (false, eval f X.env)]
section
variable {X : Cx} {pins : List (Addr × Obj)} {σ : St} {H : Hp} {s : Shared} {a : Addr} {y d : V} {u r : Value} {o : Option V} {A : Around} {E : Value → Shared → Prop}
end
section
variable {X : Cx} {o e f : Expr} {apos cpos : Pos} {td ty tx : TE}
end
section
variable {X : Cx} {pins : List (Addr × Obj)} {σ : St} {H : Hp} {s : Shared} {a : Addr} {y : V} {u : Value} {A : Around} {E : Value → Shared → Prop}
end
end L2
namespace Att
open PySem PySem.W PySem.Calls PyProof.Rows
theorem ints_of_wellAll {P : Params} {h : Heap} : ∀ (ns : List Int) (vs : List Value), WellAll P h vs (ns.map WData.int) → IntsAre vs ns := by
  intro ns
  induction ns with
  | nil =>
    intro vs w
    rw [List.map_nil] at w
    cases w
    exact .nil
  | cons n ns ih =>
    intro vs w
    rw [List.map_cons] at w
    cases w with
    | cons a b =>
      cases a
      exact .cons _ _ (ih _ b)
theorem script_of {l : OpenLaw} {n : Nat} (hn : l.most = some n) {P : Params} {h : Heap} {args : List WData} {vals : List Value}
    (hpre : l.row.toRowW.claim.pre args = true) (hwl : WellAll P h vals args) :
    ∃ a vs ns, vals = [Value.ref a] ∧ args = [WData.list (ns.map WData.int)] ∧ h.get? a = some { cls := .type "list", data := .seq vs.toArray } ∧ IntsAre vs ns ∧ ns.length ≤ n := by
  have hsh : WShape.hasAll [] args [.list .int] = true := (pre_splitW hpre).1
  have hc : l.pre.holds [] { args := args } = true := (pre_splitW hpre).2
  obtain ⟨d, r, rfl, h1, h2⟩ := hasAllW_cons hsh
  obtain rfl := hasAllW_nil h2
  obtain ⟨xs, rfl, h3⟩ := hasW_list h1
  obtain ⟨ns, rfl⟩ := items_int h3
  have hlen : ns.length ≤ n := by
    unfold OpenLaw.pre at hc
    have h4 : (WTm.not (.lt (.lit (.int (n : Int))) (.len (.arg 0)))).holds [] { args := [.list (ns.map .int)] } = true := by
      have h4 := (holds_andW hc).1
      rw [hn] at h4
      exact h4
    have h5 := condW_of h4 (w_not (w_lt w_lit (w_len_list (w_arg rfl))))
    rw [List.length_map] at h5
    refine Nat.le_of_not_lt fun q => ?_
    have q' : (n : Int) < ((ns.length : Nat) : Int) := by omega
    first
      | (rw [decide_eq_true q'] at h5; exact absurd h5 (by decide))
      | (simp at h5; omega)
  cases hwl with
  | cons w1 w2 =>
    cases w2
    cases w1 with
    | list ho hall => exact ⟨_, _, ns, rfl, rfl, ho, ints_of_wellAll ns _ hall, hlen⟩
theorem post_true (l : OpenLaw) (args : List WData) : l.row.toRowW.claim.post args (.bool true) args = true :=
  postW_of (r := l.row.toRowW) (X := (true == true))
    (show WShape.has [] (.bool true) .bool = true by first | rfl | decide | simp [WShape.has, WShape.arms, WShape.armsAll])
    (show (WTm.eq .res (.lit (.bool true))).value [] { args := args, res := some (.bool true), after := args } = some (.bool (true == true)) from w_eq_bool (w_res rfl) w_lit) rfl
theorem attach_call {l : OpenLaw} {n : Nat} {q : Program} {loose : List Str} {XP : (Str → Option Value) → Heap → Prop} {YP : World → Heap → Prop} {d : DefRec}
    (hn : l.most = some n) (hdf : d.params.defaults = [])
    (call : ∀ (w : World) (s₀ s₁ : Shared) (mg mb : Str → Option Value) (fa : Addr) (o : Obj) (pm cd doc : Value) (a : Addr) (vs : List Value) (ns : List Int),
      Ground q loose [] XP w s₀ mg mb s₁.heap → YP w s₁.heap →
      s₁.heap.get? fa = some o → o.data = .func (docDef d.name d.params d.body d.scope pm cd doc) → s₁.heap.CodeRec cd d.name → mg d.name = some (.ref fa) →
      s₁.heap.get? a = some { cls := .type "list", data := .seq vs.toArray } → IntsAre vs ns → ns.length ≤ n → s₁.gens = #[] →
      codeAny (model l.prog w) callerA (.call (.ref fa) ⟨[.ref a], []⟩) (fun r s' => r = .ok (.ret (.bool true)) ∧ OldK s₁.heap s'.heap ∧ s'.os = s₁.os ∧ AllBare s'.gens) s₁) :
    WalkO q loose XP YP l.row.toRowW d [] (fun f vs => PySem.call f vs) := by
  intro w s₀ s₁ mg mb G Y fa o pm cd doc dV kV ho hd hcd hD hmg hg args vals as hpre hlay hrd hwl hlo
  obtain rfl : dV = .none := Dflts.none hD hdf
  obtain rfl : kV = .none := Dflts.noKw hD
  obtain ⟨a, vs, ns, rfl, rfl, hobj, hints, hlen⟩ := script_of hn hpre hwl
  refine enter_call (codeAny_mono (call w s₀ s₁ mg mb fa o pm cd doc a vs ns G Y ho (fd_plain hd) hcd hmg hobj hints hlen hg) fun r s' hq => ?_)
  obtain ⟨rfl, h2, h3, h4⟩ := hq
  exact ⟨.inl ⟨.bool true, .bool true, [], rfl, fun _ => rfl, .bool true, post_true l _, fun _ => ⟨List.Pairwise.nil, fun _ hm => (nomatch hm)⟩⟩, h2, h3, h4⟩
section
variable {prog : Program} {w : World} {A : Around} {E : Value → Shared → Prop} {s : Shared} {K : Frag}
end
end Att
namespace L2
open PySem PySem.Spec PyProof.Rows
theorem vals_ints : ∀ {vs : List Value} {ns : List Int}, IntsAre vs ns → Vals (ns.map V.int) vs
  | _, _, .nil => .nil
  | _, _, .cons n t h => .cons ⟨t, rfl⟩ (vals_ints h)
def Only (H : Hp) : Prop := ∀ b, H b = none ∨ ∃ o xs, H b = some (.frz o (.lst xs))
theorem law_call {P : Program} {w : World} {K : PySem.W.Frag} {mg mb : Str → Option Value} {CX : CXT} {k : Nat} {fa a : Addr} {fd : FuncData} {x : Str} {sp : Sp} {s₁ : Shared} {vs : List Value} {ns : List Int}
    (KX : K.In s₁.heap) (hns : s₁.heap.Ns mainGlobals mg) (hb : s₁.heap.Ns builtinsNs mb) (hbb : ∀ x : Str, x ≠ "__name__" → mb x = bootBuiltins x) (hlim : s₁.heap.NoLimit) (hg : s₁.gens = #[])
    (ha : s₁.heap.get? a = some { cls := .type "list", data := .seq vs.toArray }) (hi : IntsAre vs ns) (hl : ns.length ≤ sizeLine) (hr : Room k callerA)
    (F : ∀ base : Heap, K.In base → base.Ns mainGlobals mg → FnOk P w K mg base CX k fa fd [x] sp) (hbind : ∀ (s : Shared) (u : Value), BindsTo s fd ⟨[u], []⟩ [(x, u)])
    (hsp : ∀ H : Hp, Only H → SqL K H a (ns.map V.int) → sp [.ref a] H (fun v _ => v = .bl true) fun _ _ _ => False)
    (hCX : ∀ H e s', CX [] H s₁ (fun _ _ _ => False) e s' → False) :
    codeAny (model P w) callerA (.call (.ref fa) ⟨[.ref a], []⟩) (fun r s' => r = .ok (.ret (.bool true)) ∧ OldK s₁.heap s'.heap ∧ s'.os = s₁.os ∧ AllBare s'.gens) s₁ := by
  have rv := vals_ints hi
  have lenV := hi.length
  have core : ∀ H : Hp, Only H → SqL K H a (ns.map V.int) → HOk P w H s₁.heap → (∀ b, H b ≠ none → b = a) → (H a ≠ none → K.lookup a = none) →
      codeAny (model P w) callerA (.call (.ref fa) ⟨[.ref a], []⟩) (fun r s' => r = .ok (.ret (.bool true)) ∧ OldK s₁.heap s'.heap ∧ s'.os = s₁.os ∧ AllBare s'.gens) s₁ := by
    intro H hO hS hok hA hK
    have base_of : ∀ {b : Addr} {o : Obj}, s₁.heap.get? b = some o → H b = none → (hidT s₁.heap H).get? b = some o := fun e n => hidT_get e n
    have noA : ∀ {b : Addr} {o : Obj} {es : Array DictEntry} {ep : Nat}, s₁.heap.get? b = some o → o.data = .dict es ep → H b = none := fun {b o es ep} e d => by
      cases q : H b with
      | none => rfl
      | some u =>
        have e' : b = a := hA b (by rw [q]; simp)
        subst e'
        rw [ha] at e; cases e
        have d' : Data.seq vs.toArray _ = Data.dict es ep := d
        cases d'
    have nsK : ∀ {b : Addr} {m : Str → Option Value}, s₁.heap.Ns b m → (hidT s₁.heap H).Ns b m := fun {b m} ⟨o, es, ep, e, d, r⟩ => ⟨o, es, ep, base_of e (noA e d), d, r⟩
    have hKb : K.In (hidT s₁.heap H) := fun b o e => base_of (KX b o e) (by
      cases q : H b with
      | none => rfl
      | some u =>
        have e' : b = a := hA b (by rw [q]; simp)
        subst e'
        rw [hK (by rw [q]; simp)] at e; cases e)
    have hM : Mod K mg (hidT s₁.heap H) := ⟨hKb, nsK hns, ⟨mb, nsK hb, hbb⟩, let ⟨mc, h1, h2⟩ := hlim; ⟨mc, nsK h1, h2⟩⟩
    have e0 : Env0 P w K mg (hidT s₁.heap H) callerA [] s₁ H := ⟨rfl, hM, fun b o e => of_hidT e, Nat.le_of_eq (hidT_size _ _), trivial, fun b hb => absurd (show b ∈ ([] : List Addr) from hb) (by simp), hok, .of_eq hg⟩
    refine codeAny_mono ((F _ hKb (nsK hns)).run callerA [] s₁ H ⟨[.ref a], []⟩ [.ref a] [.ref a] _ _ hr e0 (hbind s₁ (.ref a)) (.cons rfl .nil) (hsp H hO hS)) fun r s' h => ?_
    cases r with
    | error e => exact (hCX H e s' h).elim
    | ok fl =>
      cases fl with
      | next => exact False.elim h
      | brk => exact False.elim h
      | cont => exact False.elim h
      | ret u =>
        obtain ⟨v, H', os, bare, un, hok', r', q⟩ := h
        have q' : v = .bl true := q
        subst q'
        obtain rfl : u = Value.bool true := r'
        refine ⟨rfl, OldK.of_keep fun b o e => ?_, os, bare⟩
        cases q : H b with
        | none => exact un.keep b o e q (by intro z; exact absurd (show b ∈ ([] : List Addr) from z) (by simp)) (by simp)
        | some u =>
          rcases hO b with z | ⟨ob, xs, z⟩
          · rw [q] at z; cases z
          · have z2 := un.frzs b ob _ z
            obtain ⟨e1, _⟩ := hok b _ z
            obtain ⟨e2, _⟩ := hok' b _ z2
            rw [e] at e1; cases e1
            exact e2
  cases hk : K.lookup a with
  | some o =>
    have e := KX a o hk
    rw [ha] at e
    cases e
    refine core (fun _ => none) (fun _ => .inl rfl) (.inr ⟨_, vs.toArray, _, hk, rfl, rfl, rfl, by rw [List.size_toArray, lenV]; exact hl, by simpa using rv⟩) (fun b u z => by have z' : (none : Option HO) = some u := z; cases z') (fun b z => absurd rfl z) fun z => absurd rfl z
  | none =>
    refine core (fun b => if b = a then some (.frz { cls := .type "list", data := .seq vs.toArray } (.lst (ns.map V.int))) else none) (fun b => ?_) (.inl (.inr ⟨{ cls := .type "list", data := .seq vs.toArray }, if_pos rfl⟩)) (fun b u z => ?_) (fun b z => ?_) fun _ => hk
    · by_cases hb : b = a
      · exact .inr ⟨_, _, if_pos hb⟩
      · exact .inl (if_neg hb)
    · by_cases hb : b = a
      · have z' := (if_pos hb).symm.trans z
        cases z'
        subst hb
        exact ⟨ha, by rw [List.length_map]; exact hl, vs, _, rv, ha⟩
      · have z' := (if_neg hb).symm.trans z
        cases z'
    · by_cases hb : b = a
      · exact hb
      · exact absurd (if_neg hb) z
end L2
namespace L2
open PySem PySem.Spec PyProof.Rows
theorem walk_of {l : PySem.W.OpenLaw} {n k : Nat} {q : Program} {loose : List Str} {XP : (Str → Option Value) → Heap → Prop} {YP : World → Heap → Prop} {d : DefRec} {K : Params → PySem.W.Frag} {CX : World → CXT} {sp : World → Sp} {x : Str}
    (hn : l.most = some n) (hn2 : n ≤ sizeLine) (hdf : d.params.defaults = []) (hr : Room k callerA)
    (hY : ∀ (w : World) (h : Heap), YP w h → (K w.params).In h)
    (F : ∀ (w : World) (mg : Str → Option Value) (fa : Addr) (h : Heap), (K w.params).In h → h.Ns mainGlobals mg → mg d.name = some (.ref fa) →
      ∃ fd : FuncData, (∀ (s : Shared) (u : Value), BindsTo s fd ⟨[u], []⟩ [(x, u)]) ∧
        ∀ base : Heap, (K w.params).In base → base.Ns mainGlobals mg → FnOk l.prog w (K w.params) mg base (CX w) k fa fd [x] (sp w))
    (hsp : ∀ (w : World) (H : Hp) (a : Addr) (ns : List Int), ns.length ≤ n → Only H → SqL (K w.params) H a (ns.map V.int) → sp w [.ref a] H (fun v _ => v = .bl true) fun _ _ _ => False)
    (hCX : ∀ (w : World) (H : Hp) (s : Shared) (e : Value) (s' : Shared), CX w [] H s (fun _ _ _ => False) e s' → False) :
    PySem.W.WalkO q loose XP YP l.row.toRowW d [] (fun f vs => PySem.call f vs) := by
  refine Att.attach_call hn hdf fun w s₀ s₁ mg mb fa o pm cd doc a vs ns G Y ho hd hcd hmg hobj hints hlen hg => ?_
  have KX := hY w _ Y
  obtain ⟨fd, hb, hF⟩ := F w mg fa _ KX G.T.g hmg
  exact law_call KX G.T.g G.T.b G.T.builtins G.T.nolimit hg hobj hints (Nat.le_trans hlen hn2) hr hF hb (fun H hO hS => hsp w H a ns hlen hO hS) fun H e s' => hCX w H s₁ e s'
end L2
namespace L2
open PySem PySem.Spec PyProof.Rows
def defArgs (s : Stmt) : Arguments := match s with
  | .FunctionDef _ a _ _ _ _ _ _ _ _ => a
  | _ => { posonlyargs := [], args := [], vararg := none, kwonlyargs := [], kw_defaults := [], kwarg := none, defaults := [] }
def defBody (s : Stmt) : List Stmt := match s with
  | .FunctionDef _ _ b _ _ _ _ _ _ _ => b
  | _ => []
def defScope (s : Stmt) : Scope := match s with
  | .FunctionDef _ _ _ _ _ _ sc _ _ _ => sc
  | _ => { kind := .function, names := [], isGenerator := false, isCoroutine := false }
abbrev CX0 : CXT := fun _ _ _ _ _ _ => False
abbrev E0 : XK := fun _ _ _ => False
theorem pass0 {X : Cx} : Passes CX0 X E0 := fun _ _ _ _ _ _ _ h => h.elim
structure Fun (K : PySem.W.Frag) (x qual : Str) (st : Stmt) (f : Addr) (fd : FuncData) : Prop where
  ex : ∃ (oc : Value) (od : Option Addr) (kV doc pm : Value) (an : Option Addr) (cdv ct : Value) (osl : Array (Option Value)),
    fd = PySem.W.fnOf x qual (defArgs st) (defBody st) (defScope st) .none kV doc pm an cdv ct ∧ K.lookup f = some ⟨oc, od, .func fd, osl⟩ ∧ PySem.W.codeIn K cdv qual = true
  kp : PySem.W.keepIn K (.ref f) = true
section
variable {P : Program} {w : World} {K : PySem.W.Frag} {mg : Str → Option Value} {base : Heap}
theorem Fun.ok {x qual : Str} {st : Stmt} {f : Addr} {fd : FuncData} {N ps : List Str} {k : Nat} {sp : Sp} (F : Fun K x qual st f fd) (S : FnScope N ps (defScope st)) (len : ∀ vs H Q E, sp vs H Q E → vs.length = ps.length)
    (hbody : ∀ (cdv : Value) (A : Around) (outer : List Env) (s : Shared) (H : Hp) (vs : List V) (Q : VK) (E : XK), Room k (A.deeper (envOfC qual (defScope st) s.heap.objs.size f cdv)) → sp vs H Q E →
      ∃ t, PSs (cxOf CX0 P w K mg base N qual (defScope st) f cdv A outer s H E).nox (defBody st) t ∧ t { nx := fun _ H' => Q .non H', rt := Q } (start N vs) H) : FnOk P w K mg base CX0 (k + 1) f fd ps sp := by
  obtain ⟨oc, od, kV, doc, pm, an, cdv, ct, osl, rfl, lk, hcd⟩ := F.ex
  refine fn_of lk hcd S len fun A outer s H vs Q E hr hsp => ?_
  obtain ⟨t, h, q⟩ := hbody cdv A outer s H vs Q E hr hsp
  exact ⟨t, h.nox, q⟩
theorem Fun.binds {x qual : Str} {st : Stmt} {f : Addr} {fd : FuncData} {ps : List Str} (F : Fun K x qual st f fd)
    (h : ∀ (kV doc pm : Value) (an : Option Addr) (cdv ct : Value) (us : List Value), us.length = ps.length → bindArgs (PySem.W.fnOf x qual (defArgs st) (defBody st) (defScope st) .none kV doc pm an cdv ct) ⟨us, []⟩ = pure (ps.zip us)) : Binds K fd ps [] := by
  obtain ⟨oc, od, kV, doc, pm, an, cdv, ct, osl, rfl, lk, hcd⟩ := F.ex
  exact .all (h kV doc pm an cdv ct)
theorem fun_mk {x qual : Str} {st : Stmt} {f : Addr} {oc : Value} {od an : Option Addr} {osl : Array (Option Value)} {kV doc pm cdv ct : Value} (l : K.lookup f = some ⟨oc, od, .func (PySem.W.fnOf x qual (defArgs st) (defBody st) (defScope st) .none kV doc pm an cdv ct), osl⟩)
    (c : PySem.W.codeIn K cdv qual = true) (k : PySem.W.keepIn K (.ref f) = true) : Fun K x qual st f (PySem.W.fnOf x qual (defArgs st) (defBody st) (defScope st) .none kV doc pm an cdv ct) := ⟨⟨oc, od, kV, doc, pm, an, cdv, ct, osl, rfl, l, c⟩, k⟩
end
theorem hu_of {A : Around} {k : Nat} (hr : Room k A) : A.units + 1 < cLine := Nat.lt_of_le_of_lt (Nat.add_le_add_left (by decide : 1 ≤ 64) _) hr.units
section
variable {X : Cx}
theorem pv (i : Nat) {x : Str} {pos : Pos} (hN : X.N[i]? = some x := by rfl) (hv : Vis X.env.scope x := by first | exact Or.inl rfl | exact Or.inr (Or.inl rfl) | exact Or.inr (Or.inr rfl)) (hd : (x == ("__debug__" : Str)) = false := by decide)
    (hcd : (x == ("__classdict__" : Str)) = false := by decide) : PE X (.Name x pos) (tVar i) := pe_var hN hv hd hcd
end
theorem iteF {A B : Prop} (h : B) : if false = true then A else B := by
  rw [if_neg Bool.false_ne_true]
  exact h
theorem iteT {A B : Prop} (h : A) : if true = true then A else B := by
  rw [if_pos rfl]
  exact h
theorem ite2 {c A B : Prop} [Decidable c] (h1 : c → A) (h2 : ¬ c → B) : if c then A else B := by
  by_cases h : c
  · rw [if_pos h]
    exact h1 h
  · rw [if_neg h]
    exact h2 h
def Same (H H' : Hp) : Prop := ∀ b o, H b = some o → H' b = some o
theorem Same.refl (H : Hp) : Same H H := fun _ _ h => h
theorem Same.trans {H H1 H2 : Hp} (a : Same H H1) (b : Same H1 H2) : Same H H2 := fun c o h => b c o (a c o h)
theorem Same.free {H H' : Hp} (e : Same H H') {l : Addr} (h : H' l = Option.none) : H l = Option.none := by
  cases q : H l with
  | none => rfl
  | some o =>
    rw [e l o q] at h
    cases h
theorem Same.seq {K : PySem.W.Frag} {H H' : Hp} {a : Addr} {xs : List V} (e : Same H H') (h : SqL K H a xs) : SqL K H' a xs := by
  rcases h with (h | ⟨o, h⟩) | h
  · exact .inl (.inl (e _ _ h))
  · exact .inl (.inr ⟨o, e _ _ h⟩)
  · exact .inr h
section
variable {κ : Type} [DecidableEq κ]
end
end L2
set_option Elab.async false
set_option linter.all false
set_option maxRecDepth 100000
namespace L2
open PySem PySem.Spec PyProof.Rows
theorem same_new {H : Hp} {p : Addr} (h : H p = none) (o : HO) : Same H (upd H p o) := fun b u q => by rw [upd_ne (ne_of_none q h)]; exact q
theorem Same.tup {K : PySem.W.Frag} {H H' : Hp} {a : Addr} {xs : List V} (e : Same H H') (h : SqT K H a xs) : SqT K H' a xs := by
  rcases h with (h | ⟨o, h⟩) | h
  · exact .inl (.inl (e _ _ h))
  · exact .inl (.inr ⟨o, e _ _ h⟩)
  · exact .inr h
theorem Same.put {H H' : Hp} {l : Addr} {o : HO} (e : Same H H') (h : H l = none) : Same H (upd H' l o) := fun b u q => by
  rw [upd_ne (ne_of_none q h)]
  exact e b u q
def Kp (l : Addr) (H H' : Hp) : Prop := ∀ b o, b ≠ l → H b = some o → H' b = some o
theorem Kp.refl {l : Addr} {H : Hp} : Kp l H H := fun _ _ _ h => h
theorem Kp.trans {l : Addr} {H H1 H2 : Hp} (a : Kp l H H1) (b : Kp l H1 H2) : Kp l H H2 := fun c o n h => b c o n (a c o n h)
theorem Same.kp {l : Addr} {H H' : Hp} (e : Same H H') : Kp l H H' := fun b o _ h => e b o h
theorem kp_upd {l : Addr} {H : Hp} {o : HO} : Kp l H (upd H l o) := fun b u n h => by rw [upd_ne n]; exact h
theorem Kp.put {l : Addr} {H H' : Hp} {o : HO} (e : Kp l H H') : Kp l H (upd H' l o) := e.trans kp_upd
theorem le_line {n : Nat} (h : n ≤ 1000000) : n ≤ sizeLine := by
  have : sizeLine = 16777216 := sizeLine_eq
  omega
theorem lt_line {n : Nat} (h : n ≤ 1000000) : n < sizeLine := by
  have : sizeLine = 16777216 := sizeLine_eq
  omega
section
variable {X : Cx}
theorem call_isinst : CallR X (.builtin "isinstance") (fun xs H Q => ∃ x n t b, xs = [x, .ty n] ∧ TyOf X.K H x t ∧ PySem.W.kitOne X.K t (.type n) = some b ∧ Q (.bl b) H) := by
  intro pins s σ H xs us Q I r h
  obtain ⟨x, n, t, b, rfl, ty, e, q⟩ := h
  obtain ⟨u, w', rfl, rx, ry⟩ := vals2 r
  cases (show w' = Value.type n from ry)
  exact isinst_ok I rx ty e fun tk => ⟨.bl b, H, I.tok _, rfl, q⟩
end
theorem kit_same {K : PySem.W.Frag} {n : String} : PySem.W.kitOne K (.type n) (.type n) = some true := by
  unfold PySem.W.kitOne
  rw [if_pos (beq_self_eq_true _)]
theorem kit_int_str {K : PySem.W.Frag} : PySem.W.kitOne K (.type "int") (.type "str") = some false := by kernel_rfl
theorem kit_str_tuple {K : PySem.W.Frag} : PySem.W.kitOne K (.type "str") (.type "tuple") = some false := by kernel_rfl
theorem kit_int_tuple {K : PySem.W.Frag} : PySem.W.kitOne K (.type "int") (.type "tuple") = some false := by kernel_rfl
theorem kit_int_bool {K : PySem.W.Frag} : PySem.W.kitOne K (.type "int") (.type "bool") = some false := by kernel_rfl
section
variable {X : Cx}
def rIndex (K : PySem.W.Frag) : V → List V → Hp → VK → Prop := fun x vs H Q => ∃ l xs y j, x = .ref l ∧ vs = [y] ∧ SqL K H l xs ∧ flatV y = true ∧ xs.all flatV = true ∧
  (∃ z, xs[j]? = some z ∧ eqV z y = true) ∧ (∀ m z, m < j → xs[m]? = some z → eqV z y = false) ∧ Q (.int ((j : Nat) : Int)) H
theorem mt_index : MtM X "list.index" (rIndex X.K) := by
  intro pins s σ H x vs v us Q I rx rv h
  obtain ⟨l, xs, y, j, rfl, rfl, hq, fy, fs, ⟨z, hz, ez⟩, hno, q⟩ := h
  cases rx
  obtain ⟨u, rfl, ru⟩ := rv.one
  obtain ⟨its, r, pl, hsz⟩ := I.list hq
  obtain ⟨⟨cls, dd, data, sl⟩, ho, hc, n, hd⟩ := pl.isList
  simp only at hc hd
  subst hc hd
  have hl := r.length
  have hn := line63
  have hjx : j < xs.length := (List.getElem?_eq_some_iff.mp hz).1
  have hji : j < its.length := by omega
  refine call_meets PySem.F.slot_list_index ⟨_, ho, rfl⟩ PySem.F.entry_list_index (PySem.F.args_list_index_2 _ _)
    (SeqAt.list_indexAt l its.toArray n dd sl u (eqU y) j (by rw [List.size_toArray]; exact hji) (by omega) ?_ ?_) ⟨ho, fun w hw => mem_eqAt ru fy r fs w (by simpa using hw), ⟨.int ((j : Nat) : Int), H, I.tok _, ⟨_, rfl⟩, q⟩⟩
  · obtain ⟨w, ew, rw'⟩ := r.get hz
    have hh : its[j] = w := (List.getElem?_eq_some_iff.mp ew).2
    show eqU y its[j] = true
    rw [hh, eqU_of rw' (List.all_eq_true.mp fs z (List.mem_of_getElem? hz))]
    exact ez
  · intro m hm hlt
    have hmi : m < its.length := by rw [List.size_toArray] at hm; exact hm
    have hmx : m < xs.length := by omega
    have hg : xs[m]? = some xs[m] := List.getElem?_eq_getElem hmx
    obtain ⟨w, ew, rw'⟩ := r.get hg
    have hh : its[m] = w := (List.getElem?_eq_some_iff.mp ew).2
    show eqU y its[m] = false
    rw [hh, eqU_of rw' (List.all_eq_true.mp fs _ (List.mem_of_getElem? hg))]
    exact hno m _ hlt hg
def rEqNil (K : PySem.W.Frag) : R2 := fun x y H Q => ∃ a b xs, x = .ref a ∧ y = .ref b ∧ SqL K H a xs ∧ SqL K H b [] ∧ Q (.bl xs.isEmpty) H
theorem op_eqNil (hu1 : X.A.units + 1 < cLine) : OpR X (compareOp .Eq) (rEqNil X.K) := by
  intro pins s σ H x y v u Q I rx ry h
  have hu : X.A.units < cLine := by omega
  obtain ⟨a, b, xs, rfl, rfl, ha, hb, q⟩ := h
  cases rx
  cases ry
  obtain ⟨its, r, pl, hz⟩ := I.list ha
  obtain ⟨its2, r2, pl2, _⟩ := I.list hb
  have e2 : its2 = [] := r2.zero
  subst e2
  cases r with
  | nil => exact SeqAt.eq_listAt (e := fun _ => true) pl.isList pl2.isList rfl hu (fun j h1 _ => absurd h1 (by simp)) ⟨.bl true, H, I, by simp [RelV], q⟩
  | cons r1 r2 => exact SeqAt.eq_list_lengthsAt pl.isList pl2.isList (by simp) hu ⟨.bl false, H, I, rfl, q⟩
end
theorem ifT {c : Bool} {A B : Prop} (h : c = true) (a : A) : if c = true then A else B := by rw [if_pos h]; exact a
theorem ifF {c : Bool} {A B : Prop} (h : c = false) (b : B) : if c = true then A else B := by rw [if_neg (by rw [h]; exact Bool.false_ne_true)]; exact b
theorem qbl {Q : VK} {H : Hp} {a b : Bool} (e : a = b) (q : Q (.bl b) H) : Q (.bl a) H := by rw [e]; exact q
theorem dec_intV {i j : Int} : decide (V.int i = V.int j) = decide (i = j) := by
  rw [Bool.eq_iff_iff]
  simp
theorem dec_strV {i j : Str} : decide (V.str i = V.str j) = decide (i = j) := by
  rw [Bool.eq_iff_iff]
  simp
section
variable {X : Cx} {a b : Expr} {ta tb : TE} {pos : Pos} {tA tB' : TT}
def tAndP (ta tb : TE) : TE := fun σ H Q => ta σ H fun x H1 => ∃ c, x = .bl c ∧ ∃ d, (tb σ H1 fun y H2 => y = .bl d ∧ H2 = H1) ∧ Q (.bl (c && d)) H1
theorem pe_andP (ha : PE X a ta) (hb : PE X b tb) : PE X (.BoolOp .And [a, b] pos) (tAndP ta tb) := by
  intro pins s σ H Q I h
  refine BoolOp_and (thn (ha pins s σ H _ I h) fun v s1 ⟨x, H1, I1, r1, q1⟩ => ?_)
  obtain ⟨c, rfl, d, qb, q1⟩ := q1
  cases r1
  refine wpAny_truthy_bool ?_
  cases c with
  | true =>
    refine BoolOp_one (thn (hb pins s1 σ H1 _ I1 qb) fun v2 s2 ⟨y, H2, I2, r2, e, e2⟩ => ?_)
    subst e e2
    exact ⟨.bl d, H2, I2, r2, by rw [Bool.true_and] at q1; exact q1⟩
  | false => exact ⟨.bl false, H1, I1, rfl, by rw [Bool.false_and] at q1; exact q1⟩
def tAndT (tA tB : TT) : TT := fun σ H Q => tA σ H fun c H1 => ∃ d, (tB σ H1 fun d' H2 => d' = d ∧ H2 = H1) ∧ Q (c && d) H1
def tOrT (tA tB : TT) : TT := fun σ H Q => tA σ H fun c H1 => ∃ d, (tB σ H1 fun d' H2 => d' = d ∧ H2 = H1) ∧ Q (c || d) H1
theorem pt_andP (ha : PT X a tA) (hb : PT X b tB') : PT X (.BoolOp .And [a, b] pos) (tAndT tA tB') := by
  intro pins s σ H Q I h
  refine isTrue_and (thn (ha pins s σ H _ I h) fun c s1 ⟨H1, I1, d, qb, q1⟩ => ?_)
  cases c with
  | true =>
    refine isTrue_and (thn (hb pins s1 σ H1 _ I1 qb) fun c2 s2 ⟨H2, I2, e, e2⟩ => ?_)
    subst e e2
    rw [Bool.true_and] at q1
    cases c2 with
    | true => exact isTrue_and_nil ⟨H2, I2, q1⟩
    | false => exact ⟨H2, I2, q1⟩
  | false => exact ⟨H1, I1, by rw [Bool.false_and] at q1; exact q1⟩
theorem pt_orP (ha : PT X a tA) (hb : PT X b tB') : PT X (.BoolOp .Or [a, b] pos) (tOrT tA tB') := by
  intro pins s σ H Q I h
  refine isTrue_or (thn (ha pins s σ H _ I h) fun c s1 ⟨H1, I1, d, qb, q1⟩ => ?_)
  cases c with
  | false =>
    refine isTrue_or (thn (hb pins s1 σ H1 _ I1 qb) fun c2 s2 ⟨H2, I2, e, e2⟩ => ?_)
    subst e e2
    rw [Bool.false_or] at q1
    cases c2 with
    | false => exact isTrue_or_nil ⟨H2, I2, q1⟩
    | true => exact ⟨H2, I2, q1⟩
  | true => exact ⟨H1, I1, by rw [Bool.true_or] at q1; exact q1⟩
def tIfJ (c : TT) (t u : TS) : TS := fun D σ H => ∃ J : St → Hp → Prop, (c σ H fun b H1 => if b = true then t { D with nx := J } σ H1 else u { D with nx := J } σ H1) ∧ ∀ σ' H', J σ' H' → D.nx σ' H'
theorem ps_ifJ {c : Expr} {a b : List Stmt} {tc : TT} {t u : TS} (hc : PT X c tc) (ha : PSs X a t) (hb : PSs X b u) : PS X (.If c a b pos) (tIfJ tc t u) := by
  intro pins s σ H D I h
  obtain ⟨J, h, hJ⟩ := h
  have fin : ∀ (f : Flow) (s' : Shared), SP X pins { D with nx := J } f s' → SP X pins D f s' := fun f s' q => by
    cases f with
    | next => obtain ⟨σ', H', I', q⟩ := q; exact ⟨σ', H', I', hJ _ _ q⟩
    | ret v => exact q
    | brk => exact q
    | cont => exact q
  refine wpAny_If (thn (hc pins s σ H _ I h) fun d s1 ⟨H1, I1, q1⟩ => ?_)
  cases d with
  | true => exact thn (ha pins s1 σ H1 _ I1 q1) fin
  | false => exact thn (hb pins s1 σ H1 _ I1 q1) fin
end
theorem while_w {c : TT} {tb : TS} {D : Ends} {σ : St} {H : Hp} (W : Nat → St → Hp → Prop) (m : Nat) (h0 : W m σ H)
    (hs : ∀ m σ H, W m σ H → c σ H fun b H1 => if b = true then ∃ N : St → Hp → Prop, (∀ σ' H', N σ' H' → ∃ m', m' < m ∧ W m' σ' H') ∧ tb { D with nx := N, ct := N, bk := D.nx } σ H1 else D.nx σ H1) : tWhile c tb D σ H :=
  ⟨W, ⟨m, h0⟩, hs⟩
structure Kn (P : Program) (w : World) (K : PySem.W.Frag) (mg : Str → Option Value) (base : Heap) (k : Nat) (x : Str) (ps : List Str) (sp : Sp) : Prop where
  ex : ∃ (f : Addr) (fd : FuncData), FnOk P w K mg base CX0 k f fd ps sp ∧ mg x = some (.ref f) ∧ PySem.W.keepIn K (.ref f) = true ∧ Binds K fd ps []
theorem pe_callF {X : Cx} {k : Nat} {x : Str} {ps : List Str} {sp : Sp} {e : Expr} {es : List Expr} {t : TA} {p pos : Pos} (C : Kn X.prog X.w X.K X.mg X.base k x ps sp) (hr : Room k X.A) (hg : Gl X x) (ha : PA X (e :: es) t)
    (hdb : (x == ("__debug__" : Str)) = false := by decide) (he : starEach (e :: es) X.env = (false, eval e X.env) :: starEach es X.env := by rfl) (hpl : (backTo pos (starEach es X.env)).any (·.1) = false := by rfl) :
    PE X (.Call (.Name x p) (e :: es) [] pos) (tCall sp [] E0 t) := by
  obtain ⟨f, fd, F, hm, hk, hb⟩ := C.ex
  exact pe_call F hr hg hm hk hb .nil pass0 ha hdb he hpl
theorem last_of {α : Type} (gs : List α) (x : α) : (gs ++ [x])[(gs ++ [x]).length - 1]? = some x := by simp
theorem snoc_of {α : Type} {l : List α} (h : l ≠ []) : ∃ gs x, l = gs ++ [x] := ⟨l.dropLast, l.getLast h, (List.dropLast_concat_getLast h).symm⟩
theorem atI0 {α : Type} {x : α} {r : List α} : atI (x :: r) 0 = some x := atI_nat (j := 0) rfl
theorem atI1 {α : Type} {x y : α} {r : List α} : atI (x :: y :: r) 1 = some y := atI_nat (j := 1) rfl
theorem atI2 {α : Type} {x y z : α} {r : List α} : atI (x :: y :: z :: r) 2 = some z := atI_nat (j := 2) rfl
theorem atI_int {α : Type} {xs : List α} {i : Int} {v : α} (h0 : 0 ≤ i) (h : xs[i.toNat]? = some v) : atI xs i = some v := by
  have e : i = ((i.toNat : Nat) : Int) := by omega
  rw [e]
  exact atI_nat h
theorem flat_strs (ss : List Str) : (ss.map V.str).all flatV = true := by
  rw [List.all_eq_true]
  intro x hx
  obtain ⟨s, _, rfl⟩ := List.mem_map.mp hx
  rfl
theorem index_strs {ss : List Str} {s : Str} (h : s ∈ ss) : (∃ z, (ss.map V.str)[ss.idxOf s]? = some z ∧ eqV z (.str s) = true) ∧ ∀ m z, m < ss.idxOf s → (ss.map V.str)[m]? = some z → eqV z (.str s) = false := by
  have hj : ss.idxOf s < ss.length := List.idxOf_lt_length_iff.mpr h
  refine ⟨⟨.str s, ?_, ?_⟩, fun m z hm hz => ?_⟩
  · rw [List.getElem?_map, List.getElem?_eq_getElem hj, List.getElem_idxOf hj]
    rfl
  · show (s == s) = true
    exact beq_self_eq_true s
  · have hml : m < ss.length := by omega
    rw [List.getElem?_map, List.getElem?_eq_getElem hml] at hz
    cases hz
    show (ss[m] == s) = false
    have h2 : m < ss.findIdx (· == s) := hm
    exact List.not_of_lt_findIdx h2
end L2
set_option Elab.async false
set_option linter.all false
set_option maxRecDepth 100000
namespace L2
open PySem PySem.Spec PyProof.Rows
theorem compLoop_own {prog : Program} {w : World} {A : Around} {R : Result → Shared → Prop} {s : Shared} {elt target iter : Expr} {ifs : List Expr} {scope : Scope} {pos : Pos} {it acc : Value} {env : Env} (I : Nat → Shared → Prop)
    (turn : ∀ n s, I n s → wpAny (model prog w) A (pyNext it) (fun r s₁ => match r with
      | none => R (.ok .next) s₁
      | some v => wpAny (model prog w) A (letOwnedTupleGo target it v) (fun _ s₁' => wpAny (model prog w) A (assign target env v) (fun _ s₂ =>
          wpAny (model prog w) A (forIn ifs true fun c r => if r = true then do let ok ← isTrue c env (eval c env); pure (ForInStep.yield ok) else pure (ForInStep.yield r)) (fun ok s₃ =>
            if ok = true then wpAny (model prog w) A (eval elt env) (fun x s₄ =>
              wpAny (model prog w) A (call (.builtin "list.append") [acc, x]) (fun _ s₅ => ∃ m, m < n ∧ I m s₅) (notedBy (model prog w) A env fun e s' => R (.error e) s') s₄) (notedBy (model prog w) A env fun e s' => R (.error e) s') s₃
            else ∃ m, m < n ∧ I m s₃) (notedBy (model prog w) A env fun e s' => R (.error e) s') s₂) (notedBy (model prog w) A env fun e s' => R (.error e) s') s₁') (notedBy (model prog w) A env fun e s' => R (.error e) s') s₁) (notedBy (model prog w) A env fun e s' => R (.error e) s') s)
    (n : Nat) (h : I n s) :
    codeAny (model prog w) A (.compLoop (.ListComp elt [⟨target, iter, ifs, 0⟩] scope pos) 0 it acc env) R s := by
  refine codeAny_loop rfl I (fun n s hI => ?_) n h
  show wpAny _ A ((compTurn (.ListComp elt [⟨target, iter, ifs, 0⟩] scope pos) 0 it acc env).onRaise (fun x => do noteFrame x env; theTreesLotGoes x)) _ _ s
  refine wpAny_noted ?_
  rw [compTurn_list]
  refine wpAny_bind (wpAny_standAt (wpAny_bind (wpAny_mono (turn n s hI) (fun r s₁ h₁ => ?_) fun _ _ h' => h')))
  cases r with
  | none => exact wpAny_pure h₁
  | some v =>
    refine wpAny_bind (wpAny_mono h₁ (fun _ s₁' h₁' => ?_) fun _ _ h' => h')
    refine wpAny_bind (wpAny_mono h₁' (fun _ s₂ h₂ => wpAny_bind (wpAny_mono h₂ (fun ok s₃ h₃ => ?_) fun _ _ h' => h')) fun _ _ h' => h')
    cases ok with
    | false => exact wpAny_pure ⟨rfl, h₃⟩
    | true =>
      exact wpAny_bind (wpAny_bind (wpAny_mono h₃ (fun x s₄ h₄ => wpAny_bind (wpAny_mono h₄ (fun _ s₅ h₅ => wpAny_pure (wpAny_pure ⟨rfl, h₅⟩)) fun _ _ h' => h')) fun _ _ h' => h'))
def clos (env : Env) : List (Str × NameKind) → List (Str × Addr) → List (Str × Addr)
  | [], acc => acc
  | (n, k) :: r, acc => clos env r (if k == .free then (n, (env.cells.lookup n).getD 0) :: acc else acc)
theorem clos_eq {env : Env} (f : Str × NameKind → List (Str × Addr) → Sem (ForInStep (List (Str × Addr))))
    (hf : ∀ name kind cells, f (name, kind) cells = if kind == .free then (do let a ← cellOf env name; pure (.yield ((name, a) :: cells))) else pure (.yield cells)) :
    ∀ (names : List (Str × NameKind)) (acc : List (Str × Addr)), (∀ y ∈ names, y.2 = .free → ∃ c, env.cells.lookup y.1 = some c) → forIn names acc f = (pure (clos env names acc) : Sem (List (Str × Addr)))
  | [], acc, _ => by rw [List.forIn_nil]; rfl
  | (n, k) :: r, acc, h => by
    rw [List.forIn_cons, hf]
    have ih := fun acc => clos_eq f hf r acc fun y hy => h y (List.mem_cons_of_mem _ hy)
    unfold clos
    cases hk : k == NameKind.free with
    | true =>
      obtain ⟨c, hc⟩ := h (n, k) List.mem_cons_self (beq_iff_eq.mp hk)
      have e : cellOf env n = (pure c : Sem Addr) := by
        unfold cellOf
        have hc' : env.cells.lookup n = some c := hc
        rw [hc']
      have hc' : env.cells.lookup n = some c := hc
      simp only [if_true, e, pure_bind, hc', Option.getD_some]
      exact ih _
    | false =>
      simp only [Bool.false_eq_true, if_false, pure_bind]
      exact ih _
theorem closureFor_eq {scope : Scope} {env : Env} (h : ∀ y ∈ scope.names, y.2 = .free → ∃ c, env.cells.lookup y.1 = some c) : closureFor scope env = pure (clos env scope.names []) := by
  simp only [closureFor]
  rw [clos_eq (env := env) _ (fun name kind cells => by cases hk : kind == NameKind.free <;> simp [hk]) scope.names [] h]
  rfl
theorem clos_look {env : Env} : ∀ (names : List (Str × NameKind)) (acc : List (Str × Addr)), (∀ y ∈ names, y.2 = .free → ∃ c, env.cells.lookup y.1 = some c) → (∀ y c, acc.lookup y = some c → env.cells.lookup y = some c) →
    ∀ y c, (clos env names acc).lookup y = some c → env.cells.lookup y = some c
  | [], _, _, ha => ha
  | (n, k) :: r, acc, h, ha => by
    unfold clos
    refine clos_look r _ (fun y hy => h y (List.mem_cons_of_mem _ hy)) fun y c e => ?_
    cases hk : k == NameKind.free with
    | true =>
      rw [hk, if_pos rfl, List.lookup_cons] at e
      obtain ⟨c', hc⟩ := h (n, k) List.mem_cons_self (beq_iff_eq.mp hk)
      have hc' : env.cells.lookup n = some c' := hc
      cases hy : y == n with
      | true =>
        rw [hy] at e
        rw [hc'] at e
        cases e
        rw [beq_iff_eq.mp hy]
        exact hc'
      | false =>
        rw [hy] at e
        exact ha y c e
    | false =>
      rw [hk, if_neg Bool.false_ne_true] at e
      exact ha y c e
theorem clos_has {env : Env} : ∀ (names : List (Str × NameKind)) (acc : List (Str × Addr)) (y : Str), ((y, NameKind.free) ∈ names ∨ ∃ c, acc.lookup y = some c) → ∃ c, (clos env names acc).lookup y = some c
  | [], _, y, h => by
    rcases h with h | h
    · cases h
    · exact h
  | (n, k) :: r, acc, y, h => by
    unfold clos
    refine clos_has r _ y ?_
    rcases h with h | ⟨c, h⟩
    · rcases List.mem_cons.mp h with e | h
      · cases e
        refine .inr ?_
        simp [List.lookup_cons]
      · exact .inl h
    · refine .inr ?_
      by_cases hk : (k == NameKind.free) = true
      · rw [if_pos hk, List.lookup_cons]
        cases y == n with
        | true => exact ⟨_, rfl⟩
        | false => exact ⟨c, h⟩
      · rw [if_neg hk]
        exact ⟨c, h⟩
theorem cf_cell : ∀ (names : List (Str × NameKind)) (h : Heap) (acc : List (Str × Addr)) (y : Str) (c : Addr), (cellsFrom h.objs.size names acc).lookup y = some c →
    ((pushCells h names).IsCell c none ∧ h.objs.size ≤ c ∧ (y, NameKind.cell) ∈ names) ∨ acc.lookup y = some c
  | [], _, _, _, _, e => .inr e
  | (n, k) :: r, h, acc, y, c, e => by
    unfold cellsFrom at e
    unfold pushCells
    by_cases hk : (k == NameKind.cell) = true
    · rw [if_pos hk] at e ⊢
      have e' : (cellsFrom (h.push { cls := .type "cell", data := .cell none }).objs.size r ((n, h.objs.size) :: acc)).lookup y = some c := by rw [Heap.size_push]; exact e
      rcases cf_cell r (h.push { cls := .type "cell", data := .cell none }) ((n, h.objs.size) :: acc) y c e' with ⟨a1, a2, a3⟩ | a
      · rw [Heap.size_push] at a2
        exact .inl ⟨a1, by omega, List.mem_cons_of_mem _ a3⟩
      · rw [List.lookup_cons] at a
        cases hy : y == n with
        | true =>
          rw [hy] at a
          cases a
          refine .inl ⟨Heap.IsCell.keeps ⟨_, Heap.get?_push_size _ rfl, rfl⟩ fun b o q => pushCells_keeps r _ b o q, Nat.le_refl _, ?_⟩
          rw [beq_iff_eq.mp hy, beq_iff_eq.mp hk]
          exact List.mem_cons_self
        | false =>
          rw [hy] at a
          exact .inr a
    · rw [if_neg hk] at e ⊢
      rcases cf_cell r h acc y c e with ⟨a1, a2, a3⟩ | a
      · exact .inl ⟨a1, a2, List.mem_cons_of_mem _ a3⟩
      · exact .inr a
theorem cf_old : ∀ (names : List (Str × NameKind)) (n : Nat) (acc : List (Str × Addr)) (y : Str), (y, NameKind.cell) ∉ names → (cellsFrom n names acc).lookup y = acc.lookup y
  | [], _, _, _, _ => rfl
  | (m, k) :: r, n, acc, y, h => by
    unfold cellsFrom
    by_cases hk : (k == NameKind.cell) = true
    · rw [if_pos hk, cf_old r (n + 1) _ y fun z => h (List.mem_cons_of_mem _ z), List.lookup_cons]
      have : (y == m) = false := beq_eq_false_iff_ne.mpr fun z => h (by rw [z, beq_iff_eq.mp hk]; exact List.mem_cons_self)
      rw [this]
    · rw [if_neg hk]
      exact cf_old r n acc y fun z => h (List.mem_cons_of_mem _ z)
theorem cf_has : ∀ (names : List (Str × NameKind)) (n : Nat) (acc : List (Str × Addr)) (y : Str), ((y, NameKind.cell) ∈ names ∨ ∃ c, acc.lookup y = some c) → ∃ c, (cellsFrom n names acc).lookup y = some c
  | [], _, _, _, h => by
    rcases h with h | h
    · cases h
    · exact h
  | (m, k) :: r, n, acc, y, h => by
    unfold cellsFrom
    by_cases hk : (k == NameKind.cell) = true
    · rw [if_pos hk]
      refine cf_has r (n + 1) _ y ?_
      rcases h with h | ⟨c, h⟩
      · rcases List.mem_cons.mp h with e | h
        · cases e
          exact .inr ⟨n, by simp [List.lookup_cons]⟩
        · exact .inl h
      · refine .inr ?_
        rw [List.lookup_cons]
        cases y == m with
        | true => exact ⟨_, rfl⟩
        | false => exact ⟨c, h⟩
    · rw [if_neg hk]
      refine cf_has r n acc y ?_
      rcases h with h | h
      · rcases List.mem_cons.mp h with e | h
        · cases e
          exact absurd rfl hk
        · exact .inl h
      · exact .inr h
theorem cf_inj : ∀ (names : List (Str × NameKind)) (n : Nat) (acc : List (Str × Addr)), (∀ y c, acc.lookup y = some c → c < n) → (∀ y z c, acc.lookup y = some c → acc.lookup z = some c → y = z) →
    ∀ y z c, (cellsFrom n names acc).lookup y = some c → (cellsFrom n names acc).lookup z = some c → y = z
  | [], _, _, _, hi => hi
  | (m, k) :: r, n, acc, hb, hi => by
    unfold cellsFrom
    by_cases hk : (k == NameKind.cell) = true
    · rw [if_pos hk]
      refine cf_inj r (n + 1) _ (fun y c e => ?_) fun y z c e1 e2 => ?_
      · rw [List.lookup_cons] at e
        cases hy : y == m with
        | true => rw [hy] at e; cases e; exact Nat.lt_succ_self n
        | false => rw [hy] at e; exact Nat.lt_succ_of_lt (hb y c e)
      · rw [List.lookup_cons] at e1 e2
        cases hy : y == m with
        | true =>
          rw [hy] at e1
          cases e1
          cases hz : z == m with
          | true => rw [beq_iff_eq.mp hy, beq_iff_eq.mp hz]
          | false => rw [hz] at e2; exact absurd (hb z n e2) (Nat.lt_irrefl _)
        | false =>
          rw [hy] at e1
          cases hz : z == m with
          | true => rw [hz] at e2; cases e2; exact absurd (hb y n e1) (Nat.lt_irrefl _)
          | false => rw [hz] at e2; exact hi y z c e1 e2
    · rw [if_neg hk]
      exact cf_inj r n acc hb hi
theorem newEnv_comp {M : Model} {A : Around} {E : Value → Shared → Prop} {s : Shared} {scope : Scope} {globals : Addr} {cl : List (Str × Addr)} {qual : Str} {env : Env} {Q : Env → Shared → Prop}
    (hQ : Q { scope := scope, locals := s.heap.objs.size, globals := globals, cells := cellsFrom (s.heap.push { cls := .type "dict", data := .dict #[] }).objs.size scope.names cl, qual := qual, func := none, code := env.code, frame := env.frame, builtins := env.builtins }
      { s with heap := pushCells (s.heap.push { cls := .type "dict", data := .dict #[] }) scope.names }) :
    wpAny M A (newFunctionEnv scope globals cl [] qual none .none (some env)) Q E s := by
  simp only [newFunctionEnv, Option.isSome_some, if_true]
  refine wpAny_bind (wpAny_alloc ?_)
  refine wpAny_bind (wpAny_layCells _ (fun name kind cells => by cases hkc : kind == NameKind.cell <;> simp [hkc]) _ _ _ _ ?_)
  rw [List.forIn_nil]
  exact wpAny_bind (wpAny_pure (wpAny_pure hQ))
abbrev cxComp (X : Cx) (scope : Scope) (NY : List Str) (C : Addr) (cells : List (Str × Addr)) (s₀ : Shared) (H₀ : Hp) (ex : List Addr) (pins : List (Addr × Obj)) : Cx :=
  { prog := X.prog, w := X.w, K := X.K, mg := X.mg, base := X.base, A := X.A, N := NY, s₀ := s₀, H₀ := H₀, env := compEnvC scope cells C X.env, outer := X.stack, stack := X.stack, ex := ex, fn := fun y => decide ((y, NameKind.cell) ∈ scope.names), calm := X.calm, pn := X.pn ++ pins, xe := fun _ _ => False }
structure CompSc (X : Cx) (scope : Scope) (x : Str) (fr : List Str) (ix : List Nat) : Prop where
  kind : scope.kind = .function
  names : ∀ y ∈ scope.names, y.2 = .local → scope.names.lookup y.1 = some .local
  uniq : (scope.names.map (·.1)).Nodup
  xloc : scope.names.lookup x = some .local ∨ scope.names.lookup x = some .cell
  clo : ∀ y ∈ scope.names, y.2 = .free → X.env.kindOf y.1 = some .cell ∨ X.env.kindOf y.1 = some .free
  free : ∀ (k : Nat) (y : Str), fr[k]? = some y → ∃ j, ix[k]? = some j ∧ X.N[j]? = some y ∧ scope.names.lookup y = some .free
  nd : (x :: fr).Nodup
  len : fr.length = ix.length
def sub (σ : St) (ix : List Nat) (x : Option V) : St := x :: ix.map fun j => (σ[j]?).getD none
def PIfs (X : Cx) (ifs : List Expr) (t : TT) : Prop :=
  ∀ (pins : List (Addr × Obj)) (s : Shared) (σ : St) (H : Hp) (Q : Bool → Hp → Prop), Inv X pins σ H s → t σ H Q →
    wpAny (model X.prog X.w) X.A (forIn ifs true fun c r => if r = true then do let ok ← isTrue c X.env (eval c X.env); pure (ForInStep.yield ok) else pure (ForInStep.yield r)) (TP X pins σ Q) X.xe s
def tTrue : TT := fun _ H Q => Q true H
theorem pif_nil {X : Cx} : PIfs X [] tTrue := fun _ _ _ H _ I h => wpAny_tests_nil ⟨H, I, h⟩
theorem pif_one {X : Cx} {c : Expr} {t : TT} (h : PT X c t) : PIfs X [c] t := fun pins s σ H Q I q => wpAny_tests_one (h pins s σ H Q I q)
theorem look_relabel {env : Env} : ∀ {names : List (Str × NameKind)} {y : Str} {k : NameKind}, names.lookup y = some k →
    (names.map fun (n, k) => if (k == NameKind.free && env.scope.kind == .function && env.kindOf n == some .cell) then (n, NameKind.cell) else (n, k)).lookup y = some (if (k == NameKind.free && env.scope.kind == .function && env.kindOf y == some .cell) then NameKind.cell else k)
  | [], _, _, h => by simp at h
  | (n, k') :: r, y, k, h => by
    rw [List.lookup_cons] at h
    rw [List.map_cons]
    cases hy : y == n with
    | true =>
      rw [hy] at h
      cases h
      have e : y = n := beq_iff_eq.mp hy
      subst e
      by_cases hc : (k' == NameKind.free && env.scope.kind == .function && env.kindOf y == some .cell) = true
      · simp only [hc, if_true, List.lookup_cons, beq_self_eq_true]
      · simp only [hc, if_false, List.lookup_cons, beq_self_eq_true]
        simp
    | false =>
      rw [hy] at h
      have ih := look_relabel (env := env) (names := r) h
      by_cases hc : (k' == NameKind.free && env.scope.kind == .function && env.kindOf n == some .cell) = true
      · simp only [hc, if_true, List.lookup_cons, hy]
        exact ih
      · show List.lookup y ((if (k' == NameKind.free && env.scope.kind == .function && env.kindOf n == some .cell) = true then (n, NameKind.cell) else (n, k')) :: _) = _
        rw [if_neg hc, List.lookup_cons, hy]
        exact ih
theorem look_back {env : Env} : ∀ {names : List (Str × NameKind)} {y : Str} {k : NameKind},
    (names.map fun (n, k) => if (k == NameKind.free && env.scope.kind == .function && env.kindOf n == some .cell) then (n, NameKind.cell) else (n, k)).lookup y = some k → ∃ k', names.lookup y = some k' ∧ k = (if (k' == NameKind.free && env.scope.kind == .function && env.kindOf y == some .cell) then NameKind.cell else k')
  | names, y, k, h => by
    cases e : names.lookup y with
    | some k' =>
      have := look_relabel (env := env) e
      rw [this] at h
      exact ⟨k', rfl, (Option.some.inj h).symm⟩
    | none =>
      exfalso
      induction names with
      | nil => simp at h
      | cons p r ih =>
        obtain ⟨n, k'⟩ := p
        rw [List.lookup_cons] at e
        cases hy : y == n with
        | true => rw [hy] at e; cases e
        | false =>
          rw [hy] at e
          refine ih ?_ e
          rw [List.map_cons] at h
          by_cases hc : (k' == NameKind.free && env.scope.kind == .function && env.kindOf n == some .cell) = true
          · simpa only [hc, if_true, List.lookup_cons, hy] using h
          · simpa [hc, List.lookup_cons, hy] using h
theorem lookup_mem {α : Type} {l : List (Str × α)} {n : Str} {c : α} (h : l.lookup n = some c) : (n, c) ∈ l := PySem.mem_of_lookup h
theorem cf_new : ∀ (names : List (Str × NameKind)) (n : Nat) (acc : List (Str × Addr)) (y : Str) (c : Addr), (y, NameKind.cell) ∈ names → (cellsFrom n names acc).lookup y = some c → n ≤ c
  | [], _, _, _, _, h, _ => by cases h
  | (m, k) :: r, n, acc, y, c, h, e => by
    unfold cellsFrom at e
    by_cases hr : (y, NameKind.cell) ∈ r
    · by_cases hk : (k == NameKind.cell) = true
      · rw [if_pos hk] at e
        exact Nat.le_of_succ_le (cf_new r (n + 1) _ y c hr e)
      · rw [if_neg hk] at e
        exact cf_new r n acc y c hr e
    · rcases List.mem_cons.mp h with q | q
      · cases q
        rw [if_pos (beq_self_eq_true _), cf_old r (n + 1) _ _ hr, List.lookup_cons, beq_self_eq_true] at e
        cases e
        exact Nat.le_refl _
      · exact absurd q hr
theorem uniq_kind : ∀ {names : List (Str × NameKind)} {y : Str} {k k' : NameKind}, (names.map (·.1)).Nodup → names.lookup y = some k → (y, k') ∈ names → k = k'
  | [], _, _, _, _, h, _ => by simp at h
  | (n, kk) :: r, y, k, k', hn, h, hm => by
    rw [List.map_cons] at hn
    obtain ⟨h1, h2⟩ := List.nodup_cons.mp hn
    rw [List.lookup_cons] at h
    cases hy : y == n with
    | true =>
      rw [hy] at h
      cases h
      rcases List.mem_cons.mp hm with e | hm
      · cases e; rfl
      · exact absurd (List.mem_map.mpr ⟨_, hm, rfl⟩) (by rw [beq_iff_eq.mp hy]; exact h1)
    | false =>
      rw [hy] at h
      rcases List.mem_cons.mp hm with e | hm
      · cases e
        rw [beq_self_eq_true] at hy
        cases hy
      · exact uniq_kind h2 h hm
section
variable {X : Cx} {pins : List (Addr × Obj)} {σ : St} {H : Hp} {s : Shared} {scope : Scope} {x : Str} {fr : List Str} {ix : List Nat} {fp : List Addr}
abbrev listO : Obj := { cls := .type "list", data := .seq ([] : List Value).toArray }
abbrev dictO : Obj := { cls := .type "dict", data := .dict #[] }
theorem blk_start (S : CompSc X scope x fr ix) (I : Inv X pins σ H s) (hfp : ∀ b ∈ fp, FpOk X pins H b) (hlt : ∀ b ∈ fp, b < s.heap.objs.size) :
    Inv (cxComp X scope (x :: fr) (s.heap.push listO).objs.size (cellsFrom ((s.heap.push listO).push dictO).objs.size scope.names (clos X.env scope.names [])) s H fp pins) [] (sub σ ix none) H
      { s with heap := pushCells ((s.heap.push listO).push dictO) scope.names } := by
  have clo' : ∀ y ∈ scope.names, y.2 = .free → ∃ c, X.env.cells.lookup y.1 = some c := fun y hy hk => I.ok.has y.1 (S.clo y hy hk)
  have clook : ∀ y c, (clos X.env scope.names []).lookup y = some c → X.env.cells.lookup y = some c := clos_look scope.names [] clo' fun y c e => by simp at e
  have chas : ∀ y, (y, NameKind.free) ∈ scope.names → ∃ c, (clos X.env scope.names []).lookup y = some c := fun y hy => clos_has scope.names [] y (.inl hy)
  have cb : ∀ y c, (clos X.env scope.names []).lookup y = some c → c < s.heap.objs.size := fun y c e => by
    obtain ⟨v, q⟩ := I.cell y c (clook y c e)
    exact q.lt
  have z1 : (s.heap.push listO).objs.size = s.heap.objs.size + 1 := Heap.size_push ..
  have z2 : ((s.heap.push listO).push dictO).objs.size = s.heap.objs.size + 2 := by rw [Heap.size_push, z1]
  have up : ∀ b o, s.heap.get? b = some o → (pushCells ((s.heap.push listO).push dictO) scope.names).get? b = some o := fun b o e => pushCells_keeps _ _ b o (Heap.get?_push_of_some _ (Heap.get?_push_of_some _ e))
  have cold : ∀ y c, (cellsFrom ((s.heap.push listO).push dictO).objs.size scope.names (clos X.env scope.names [])).lookup y = some c →
      ((pushCells ((s.heap.push listO).push dictO) scope.names).IsCell c none ∧ s.heap.objs.size + 2 ≤ c ∧ (y, NameKind.cell) ∈ scope.names) ∨ X.env.cells.lookup y = some c := fun y c e => by
    rcases cf_cell scope.names ((s.heap.push listO).push dictO) (clos X.env scope.names []) y c e with ⟨a1, a2, a3⟩ | a
    · rw [z2] at a2
      exact .inl ⟨a1, a2, a3⟩
    · exact .inr (clook y c a)
  have ok : (cxComp X scope (x :: fr) (s.heap.push listO).objs.size (cellsFrom ((s.heap.push listO).push dictO).objs.size scope.names (clos X.env scope.names [])) s H fp pins).Ok := by
    refine ⟨I.ok.mod, S.kind, I.ok.glob, I.ok.blt, ?_, ?_, ?_, ?_, I.ok.hd, I.ok.frames, .inl rfl, ?_, I.bs, Nat.le_trans I.ok.bsz I.sz, ?_, ?_, I.stack, I.stkFree⟩
    · show s.heap.objs.size ≤ (s.heap.push listO).objs.size
      rw [z1]
      omega
    · exact cf_inj scope.names _ _ (fun y c e => by rw [z2]; exact Nat.lt_of_lt_of_le (cb y c e) (Nat.le_add_right _ 2)) fun y z c e1 e2 => I.ok.inj y z c (clook y c e1) (clook z c e2)
    · intro y hy
      refine cf_has scope.names _ _ y ?_
      have hy' : (relabel scope X.env).names.lookup y = some .cell ∨ (relabel scope X.env).names.lookup y = some .free := hy
      rcases hy' with hy' | hy'
      · obtain ⟨k', e, ek⟩ := look_back hy'
        by_cases hc : (k' == NameKind.free && X.env.scope.kind == .function && X.env.kindOf y == some .cell) = true
        · rw [Bool.and_eq_true, Bool.and_eq_true] at hc
          have e2 := beq_iff_eq.mp hc.1.1
          subst e2
          exact .inr (chas y (lookup_mem e))
        · rw [if_neg hc] at ek
          subst ek
          exact .inl (lookup_mem e)
      · obtain ⟨k', e, ek⟩ := look_back hy'
        by_cases hc : (k' == NameKind.free && X.env.scope.kind == .function && X.env.kindOf y == some .cell) = true
        · rw [if_pos hc] at ek
          cases ek
        · rw [if_neg hc] at ek
          subst ek
          exact .inr (chas y (lookup_mem e))
    · intro y c hy e
      have hm : (y, NameKind.cell) ∈ scope.names := of_decide_eq_true hy
      have := cf_new scope.names _ _ y c hm e
      show s.heap.objs.size ≤ c
      rw [z2] at this
      omega
    · intro b hb
      have hb' := hlt b hb
      refine ⟨?_, fun y c e => ?_⟩
      · show b ≠ (s.heap.push listO).objs.size
        rw [z1]
        exact Nat.ne_of_lt (Nat.lt_succ_of_lt hb')
      · rcases cold y c e with ⟨_, a2, _⟩ | a
        · exact Nat.ne_of_gt (Nat.lt_of_lt_of_le hb' (Nat.le_trans (Nat.le_add_right _ 2) a2))
        · exact (hfp b hb).2.2.2.2.1 y c a
    · intro b o e hb
      obtain ⟨_, _, _, f3, _⟩ := hfp b hb
      rcases f3 with f3 | f3
      · exact I.ok.noex b o e f3
      · exact absurd (Nat.lt_of_lt_of_le (Heap.lt_size e) (Nat.le_trans I.ok.bsz f3)) (Nat.lt_irrefl _)
    · intro b hb z
      obtain ⟨_, f1, f2, _⟩ := hfp b hb
      rcases List.mem_cons.mp (I.stkSub b z) with e | e
      · exact f1 e
      · exact f2 e
  refine ⟨ok, rfl, I.bare, Un.kept up, ⟨_, (Heap.Ns.new (s.heap.push listO) (.type "dict")).keeps (pushCells_keeps _ _), fun i y v e1 e2 e3 => ?_⟩, fun y c e => ?_, ?_, fun y c e => ?_, fun p hp => ?_, I.hok.kept up, ?_⟩
  · cases i with
    | zero => cases e2
    | succ k =>
      have e1' : fr[k]? = some y := e1
      have e2' : (ix.map fun j => (σ[j]?).getD none)[k]? = some (some v) := e2
      obtain ⟨j, hj, hN, hsc⟩ := S.free k y e1'
      rw [List.getElem?_map, hj] at e2'
      have e4 : (σ[j]?).getD none = some v := Option.some.inj e2'
      have e5 : σ[j]? = some (some v) := by
        cases q : σ[j]? with
        | none => rw [q] at e4; cases e4
        | some o => rw [q] at e4; exact congrArg some e4
      have hk := S.clo (y, NameKind.free) (lookup_mem hsc) rfl
      obtain ⟨m, hn, hl⟩ := I.loc
      obtain ⟨u, ru, lk⟩ := hl j y v hN e5 (.inr hk)
      refine ⟨u, ru, .inr ⟨?_, ?_⟩⟩
      · have q := look_relabel (env := X.env) hsc
        show (relabel scope X.env).names.lookup y = _ ∨ (relabel scope X.env).names.lookup y = _
        rw [show (relabel scope X.env).names.lookup y = _ from q]
        by_cases hc : (NameKind.free == NameKind.free && X.env.scope.kind == .function && X.env.kindOf y == some .cell) = true
        · rw [if_pos hc]; exact .inl rfl
        · rw [if_neg hc]; exact .inr rfl
      · rcases lk with ⟨lk, _⟩ | ⟨_, c, hc, hcell⟩
        · rcases hk with hk | hk
          · rw [show X.env.kindOf y = _ from hk] at lk; cases lk
          · rw [show X.env.kindOf y = _ from hk] at lk; cases lk
        · refine ⟨c, ?_, hcell.keeps up⟩
          have hno : (y, NameKind.cell) ∉ scope.names := fun z => by
            have := uniq_kind S.uniq hsc z
            cases this
          show (cellsFrom _ scope.names _).lookup y = some c
          rw [cf_old scope.names _ _ y hno]
          obtain ⟨c', hc'⟩ := chas y (lookup_mem hsc)
          have := clook y c' hc'
          rw [hc] at this
          cases this
          exact hc'
  · rcases cold y c e with ⟨a1, _, _⟩ | a
    · exact ⟨none, a1⟩
    · obtain ⟨v, q⟩ := I.cell y c a
      exact ⟨v, q.keeps up⟩
  · show H (s.heap.push listO).objs.size = none
    exact I.hok.fresh (by rw [z1]; omega)
  · rcases cold y c e with ⟨_, a2, _⟩ | a
    · exact I.hok.fresh (by omega)
    · exact I.freeC y c a
  · have hp' : p ∈ X.pn ++ pins := by simpa using hp
    obtain ⟨e, n, ne, nf, d⟩ := I.pin p hp'
    have hpl := Heap.lt_size e
    refine ⟨up _ _ e, n, ?_, fun z => ?_, d⟩
    · show p.1 ≠ (s.heap.push listO).objs.size
      rw [z1]
      exact Nat.ne_of_lt (Nat.lt_succ_of_lt hpl)
    · rcases List.mem_cons.mp (I.stkSub p.1 z) with q | q
      · exact ne q
      · exact nf q
  · show (sub σ ix none).length = (x :: fr).length
    unfold sub
    rw [List.length_cons, List.length_map, List.length_cons, S.len]
theorem blk_back {σ4 : St} {H4 : Hp} {s4 : Shared} {cells : List (Str × Addr)} {NY : List Str} {C D : Addr} {pl : List (Addr × Obj)} {its : List Value} {ys : List V} {k : Nat} {h' : Heap} (I : Inv X pins σ H s) (hfp : ∀ b ∈ fp, FpOk X pins H b)
    (I4 : Inv (cxComp X scope NY C cells s H fp pins) pl σ4 H4 s4) (hD : s.heap.objs.size ≤ D) (hC : s.heap.objs.size ≤ C) (hDC : D ≠ C) (nD : H4 D = none) (oD : s4.heap.get? D = some { cls := .type "list", data := .seq its.toArray k }) (r : Vals ys its) (hz : ys.length ≤ sizeLine)
    (sb : Heap.SameBut C s4.heap h') : Inv X pins σ (upd H4 D (.lst ys)) { s4 with heap := h' } := by
  have u : Un (frs X.stack) fp H H4 s.heap s4.heap := I4.base
  have ne : ∀ b o, s.heap.get? b = some o → b ≠ C ∧ b ≠ D := fun b o e => by
    have := Heap.lt_size e
    exact ⟨Nat.ne_of_lt (Nat.lt_of_lt_of_le this hC), Nat.ne_of_lt (Nat.lt_of_lt_of_le this hD)⟩
  have hHD : H D = none := I.hok.fresh hD
  have nC : H4 C = none := I4.free
  have sm : ∀ b, b ≠ C → h'.get? b = s4.heap.get? b := fun b hb => sb.2 b hb
  have u' : Un (frs X.stack) fp H (upd H4 D (.lst ys)) s.heap h' := by
    refine ⟨fun b o e n hb hx => ?_, fun b o e n hb hx => ?_, fun b o e n hx => ?_, fun b o e hx => ?_, fun b xs e => ?_, fun b o w e => ?_, fun b ps e => ?_⟩
    · rw [sm b (ne b o e).1]
      exact u.keep b o e n hb hx
    · rw [sm b (ne b o e).1]
      exact u.slot b o e n hb hx
    · rw [upd_ne (ne b o e).2]
      exact u.free b o e n hx
    · rw [sm b (ne b o e).1]
      exact u.there b o e hx
    · rw [upd_ne (ne_of_none e hHD)]
      exact u.tups b xs e
    · rw [upd_ne (ne_of_none e hHD)]
      exact u.frzs b o w e
    · rw [upd_ne (ne_of_none e hHD)]
      exact u.tbls b ps e
  have hok : HOk X.prog X.w (upd H4 D (.lst ys)) h' := fun b o e => by
    by_cases hb : b = D
    · subst hb
      rw [upd_same] at e
      cases e
      exact ⟨hz, its, k, r, (sm b hDC).trans oD⟩
    · rw [upd_ne hb] at e
      refine (I4.hok b o e).stay (fun c v hc q => ?_) (fun c q => ?_) fun c xs q => ?_
      · have hcC : c ≠ C := by
          rintro rfl
          rcases hc with z | z
          · rw [← z, nC] at e; cases e
          · rw [nC] at z; cases z
        exact (sm c hcC).trans q
      · rw [upd_ne (ne_of_none q nD)]
        exact q
      · rw [upd_ne (ne_of_none q nD)]
        exact q
  exact I.call' (s' := { s4 with heap := h' }) (ch := fp) I4.os u' hok I4.bare fun b hb => by
    obtain ⟨_, f1, _, f3, f4, f5⟩ := hfp b hb
    exact ⟨f3, f1, f4, f5⟩
end
def CompOk (J : It) (σ : St) (ix : List Nat) (tc : TT) (te : TE) (Q : List V → Hp → Prop) (H1 : Hp) : Prop :=
  ∃ W : Nat → Nat → List V → Hp → Prop, (∃ m, W 0 m [] H1) ∧ ∀ i m ys H, W i m ys H → ys.length < sizeLine ∧
    ((J.stop i H ∧ Q ys H) ∨ (J.go i H ∧ ∃ (NY : V → Hp → Prop) (NN : Hp → Prop), (∀ y H3, NY y H3 → ∃ m', m' < m ∧ W (i + 1) m' (ys ++ [y]) H3) ∧ (∀ H2, NN H2 → ∃ m', m' < m ∧ W (i + 1) m' ys H2) ∧
      ∀ x H', J.yld i H x H' → tc (sub σ ix (some x)) H' fun b H2 => if b = true then te (sub σ ix (some x)) H2 NY else NN H2))
section
variable {X : Cx} {elt iter : Expr} {ifs : List Expr} {x : Str} {px : Pos} {scope : Scope} {pos : Pos} {wi : TI} {tc : TT} {te : TE} {fr : List Str} {ix : List Nat}
theorem comp_loop {pins : List (Addr × Obj)} {σ : St} {H : Hp} {s : Shared} {fp : List Addr} {it : Addr} {tn : Nat → Heap → Prop} {J : It} {R : Result → Shared → Prop} {Q : List V → Hp → Prop} (hc : X.calm = true) (S : CompSc X scope x fr ix)
    (hel : ∀ C cells s₀ H₀ ex pins, PE (cxComp X scope (x :: fr) C cells s₀ H₀ ex pins) elt te) (hif : ∀ C cells s₀ H₀ ex pins, PIfs (cxComp X scope (x :: fr) C cells s₀ H₀ ex pins) ifs tc)
    (I : Inv X pins σ H s) (T : Turn X.prog X.w X.K (.Name x px) J fp it tn) (st : tn 0 s.heap) (hfp : ∀ b ∈ fp, FpOk X pins H b) (h : CompOk J σ ix tc te Q H)
    (hR : ∀ s4 ys H4, (∃ m, s4.heap.Ns (s.heap.push listO).objs.size m) → Q ys H4 → H4 s.heap.objs.size = none → H4 (s.heap.push listO).objs.size = none → (∀ h', Heap.SameBut (s.heap.push listO).objs.size s4.heap h' → Inv X pins σ (upd H4 s.heap.objs.size (.lst ys)) { s4 with heap := h' }) → R (.ok .next) s4) :
    codeAny (model X.prog X.w) X.A (.compLoop (.ListComp elt [⟨.Name x px, iter, ifs, 0⟩] scope pos) 0 (.ref it) (.ref s.heap.objs.size)
      (compEnvC scope (cellsFrom ((s.heap.push listO).push dictO).objs.size scope.names (clos X.env scope.names [])) (s.heap.push listO).objs.size X.env)) R { s with heap := pushCells ((s.heap.push listO).push dictO) scope.names } := by
  obtain ⟨W, ⟨m0, w0⟩, turn⟩ := h
  have hlt : ∀ b ∈ fp, b < s.heap.objs.size := fun b hb => by
    obtain ⟨o, e, _⟩ := T.obj 0 _ st b hb
    exact Heap.lt_size e
  have I0 := blk_start S I hfp hlt
  have z1 : (s.heap.push listO).objs.size = s.heap.objs.size + 1 := Heap.size_push ..
  have up : ∀ b o, s.heap.get? b = some o → (pushCells ((s.heap.push listO).push dictO) scope.names).get? b = some o := fun b o e => pushCells_keeps _ _ b o (Heap.get?_push_of_some _ (Heap.get?_push_of_some _ e))
  have oD0 : (pushCells ((s.heap.push listO).push dictO) scope.names).get? s.heap.objs.size = some { cls := .type "list", data := .seq ([] : List Value).toArray } :=
    pushCells_keeps _ _ _ _ (Heap.get?_push_of_some _ (Heap.get?_push_size _ rfl))
  have clo' : ∀ y ∈ scope.names, y.2 = .free → ∃ c, X.env.cells.lookup y.1 = some c := fun y hy hk => I.ok.has y.1 (S.clo y hy hk)
  have cellsD : ∀ y c, (cellsFrom ((s.heap.push listO).push dictO).objs.size scope.names (clos X.env scope.names [])).lookup y = some c → c ≠ s.heap.objs.size := fun y c e => by
    rcases cf_cell scope.names ((s.heap.push listO).push dictO) (clos X.env scope.names []) y c e with ⟨_, a2, _⟩ | a
    · rw [Heap.size_push, z1] at a2
      exact Nat.ne_of_gt (Nat.lt_of_lt_of_le (Nat.lt_succ_of_lt (Nat.lt_succ_self _)) a2)
    · obtain ⟨v, q⟩ := I.cell y c (clos_look scope.names [] clo' (fun y c e => by simp at e) y c a)
      exact Nat.ne_of_lt q.lt
  generalize cellsFrom ((s.heap.push listO).push dictO).objs.size scope.names (clos X.env scope.names []) = cells at I0 cellsD ⊢
  generalize hCe : (s.heap.push listO).objs.size = C at I0 hR z1 ⊢
  generalize hDe : s.heap.objs.size = D at z1 oD0 cellsD hlt hR ⊢
  have hDC : D ≠ C := by omega
  have DleD : s.heap.objs.size ≤ D := by omega
  have DleC : s.heap.objs.size ≤ C := by omega
  have pnD : ∀ p ∈ X.pn ++ pins, p.1 ≠ D := fun p hp => by
    have := Heap.lt_size (I.pin p hp).1
    exact Nat.ne_of_lt (hDe ▸ this)
  have Dfs : D ∉ frs X.stack := fun z => by
    rcases List.mem_cons.mp (I.stkSub D z) with e | e
    · have := I.lt
      rw [← e, hDe] at this
      exact Nat.lt_irrefl _ this
    · exact I.nofs DleD e
  have hNd : (x :: fr).Nodup := S.nd
  have hxl : Loc (relabel scope X.env) x := by
    rcases S.xloc with q | q
    · exact .inl (look_relabel (env := X.env) q)
    · exact .inr (look_relabel (env := X.env) q)
  have hxf : (cxComp X scope (x :: fr) C cells s H fp pins).fn x = true ∨ (cxComp X scope (x :: fr) C cells s H fp pins).env.scope.names.lookup x = some .local := by
    rcases S.xloc with q | q
    · exact .inr (look_relabel (env := X.env) q)
    · exact .inl (decide_eq_true (lookup_mem q))
  refine compLoop_own (fun n s' => ∃ i ys its k ox H', Inv (cxComp X scope (x :: fr) C cells s H fp pins) [] (sub σ ix ox) H' s' ∧ tn i s'.heap ∧ (∀ b ∈ fp, H' b = none) ∧ s'.heap.get? D = some { cls := .type "list", data := .seq its.toArray k } ∧ H' D = none ∧ Vals ys its ∧ W i n ys H') ?_ m0
    ⟨0, [], [], 0, none, H, I0, T.keep _ _ _ st fun b hb o e => up b o e, fun b hb => (hfp b hb).1, oD0, I.hok.fresh DleD, .nil, w0⟩
  rintro n s3 ⟨i, ys, its, k, ox, H3, I3, st3, fr3, oD3, nD3, rv3, w3⟩
  obtain ⟨hys, hcase⟩ := turn i n ys H3 w3
  have hlen := rv3.length
  have DC' : D ≠ (cxComp X scope (x :: fr) C cells s H fp pins).env.locals := hDC
  have I3p : Inv (cxComp X scope (x :: fr) C cells s H fp pins) [(D, { cls := .type "list", data := .seq its.toArray k })] (sub σ ix ox) H3 s3 := I3.pins_of fun p hp => by
    rw [List.mem_singleton.mp hp]
    exact ⟨oD3, nD3, DC', Dfs, fun v z => by cases z⟩
  have fpY : ∀ {H' : Hp}, (∀ b ∈ fp, H' b = none) → ∀ b ∈ fp, FpOk (cxComp X scope (x :: fr) C cells s H fp pins) [(D, { cls := .type "list", data := .seq its.toArray k })] H' b := fun {H'} hn b hb => by
    obtain ⟨e1, e2⟩ := I3.ok.exf b hb
    refine ⟨hn b hb, e1, I3.ok.exfs b hb, .inl hb, e2, fun p hp => ?_⟩
    rcases List.mem_append.mp hp with hp | hp
    · exact (hfp b hb).2.2.2.2.2 p hp
    · rw [List.mem_singleton.mp hp]
      have := hlt b hb
      exact Nat.ne_of_gt this
  rcases hcase with ⟨stop, q⟩ | ⟨go, NY, NN, hNY, hNN, step⟩
  · refine thn (T.done (cxComp X scope (x :: fr) C cells s H fp pins) rfl rfl rfl hc i _ s3 _ H3 _ I3p (fpY fr3) st3 stop) fun r s4 ⟨hr, I4⟩ => ?_
    subst hr
    have oD4 := (I4.pin (D, { cls := .type "list", data := .seq its.toArray k }) (List.mem_append_right _ (List.mem_singleton.mpr rfl))).1
    obtain ⟨m, hn, _⟩ := I4.loc
    exact hR s4 ys H3 ⟨m, hn⟩ q nD3 I4.free fun h' sb => blk_back I hfp I4 DleD DleC hDC nD3 oD4 rv3 (Nat.le_of_lt hys) sb
  · refine thn (T.item (cxComp X scope (x :: fr) C cells s H fp pins) rfl rfl rfl hc i _ s3 _ H3 _ I3p (fpY fr3) st3 go) fun r s4 ⟨u, hr, h4⟩ => ?_
    subst hr
    refine thn h4 fun _ s5 ⟨v, H5, I5, r5, y5, st5, fr5⟩ => ?_
    have I5' := I5.pinned (fpY fr5) (T.obj _ _ st5)
    refine wpAny_assign_Name (store_ok (i := 0) I5' hNd rfl hxl r5 (fun s6 I6 => ?_) hxf)
    have q6 := step v H5 y5
    have I6' : Inv (cxComp X scope (x :: fr) C cells s H fp pins) ([(D, { cls := .type "list", data := .seq its.toArray k })] ++ pinsAt fp s5.heap) (sub σ ix (some v)) H5 s6 := I6
    refine wpAny_mono (hif C cells s H fp pins _ s6 _ H5 _ I6' q6) (fun b s7 ⟨H7, I7, q7⟩ => ?_) fun _ _ z => z.elim
    have tnK : ∀ {H8 : Hp} {s8 : Shared} {σ8 : St}, Inv (cxComp X scope (x :: fr) C cells s H fp pins) ([(D, { cls := .type "list", data := .seq its.toArray k })] ++ pinsAt fp s5.heap) σ8 H8 s8 → tn (i + 1) s8.heap ∧ (∀ b ∈ fp, H8 b = none) ∧ s8.heap.get? D = some { cls := .type "list", data := .seq its.toArray k } ∧ H8 D = none := fun {H8 s8 σ8} I8 => by
      refine ⟨T.keep _ _ _ st5 fun b hb o e => (I8.pin (b, o) (List.mem_append_right _ (List.mem_append_right _ (mem_pinsAt hb e)))).1, fun b hb => ?_, ?_, ?_⟩
      · obtain ⟨o, e, d⟩ := T.obj _ _ st5 b hb
        exact (I8.pin (b, o) (List.mem_append_right _ (List.mem_append_right _ (mem_pinsAt hb e)))).2.1
      · exact (I8.pin (D, { cls := .type "list", data := .seq its.toArray k }) (List.mem_append_right _ (List.mem_append_left _ (List.mem_singleton.mpr rfl)))).1
      · exact (I8.pin (D, { cls := .type "list", data := .seq its.toArray k }) (List.mem_append_right _ (List.mem_append_left _ (List.mem_singleton.mpr rfl)))).2.1
    cases b with
    | false =>
      rw [if_neg Bool.false_ne_true] at q7 ⊢
      obtain ⟨m', hm, w7⟩ := hNN _ q7
      obtain ⟨t1, t2, t3, t4⟩ := tnK I7
      exact ⟨m', hm, i + 1, ys, its, k, some v, H7, I7.pins_of fun p hp => (by cases hp), t1, t2, t3, t4, rv3, w7⟩
    | true =>
      rw [if_pos rfl] at q7 ⊢
      refine wpAny_mono (hel C cells s H fp pins _ s7 _ H7 _ I7 q7) (fun y s8 ⟨w, H8, I8, r8, q8⟩ => ?_) fun _ _ z => z.elim
      obtain ⟨m', hm, w8⟩ := hNY _ _ q8
      obtain ⟨t1, t2, t3, t4⟩ := tnK I8
      refine call_meets F.slot_list_append ⟨_, t3, rfl⟩ F.entry_list_append (F.args_list_append_2 _ _) (PySem.list_append D its.toArray k y (by rw [List.size_toArray]; omega)) ⟨t3, ?_⟩
      obtain ⟨k9, oD9⟩ : ∃ k9, (s8.heap.update D (Obj.mapSeq (·.push y))).get? D = some { cls := .type "list", data := .seq (its ++ [y]).toArray k9 } := ⟨_, by
        rw [show (its ++ [y]).toArray = its.toArray.push y by simp]
        exact PySem.IsL.update t3 (·.push y)⟩
      have I8n : Inv (cxComp X scope (x :: fr) C cells s H fp pins) [] (sub σ ix (some v)) H8 s8 := I8.pins_of fun p hp => (by cases hp)
      have I9 := Inv.turned (it := D) (t' := s8.toks) (h' := s8.heap.update D (Obj.mapSeq (·.push y))) I8n (fun b o hb e => (Heap.get?_update_other s8.heap _ (Ne.symm hb)).trans e) t4 DC' (.inr DleD) cellsD (fun p hp => pnD p (by simpa using hp))
      exact ⟨m', hm, i + 1, ys ++ [w], its ++ [y], k9, some v, H8, I9, T.keep _ _ _ t1 fun b hb o e => (Heap.get?_update_other s8.heap _ (Nat.ne_of_gt (hlt b hb))).trans e, t2, oD9, t4, rv3.append (.cons r8 .nil), w8⟩
def tComp (wi : TI) (ix : List Nat) (tc : TT) (te : TE) : TE := fun σ H Q => wi σ H fun J H1 => CompOk J σ ix tc te (fun ys H2 => ∀ p, H2 p = none → Q (.ref p) (upd H2 p (.lst ys))) H1
theorem pe_comp (hc : X.calm = true) (S : CompSc X scope x fr ix) (hi : PI X (.Name x px) iter wi)
    (hif : ∀ C cells s₀ H₀ ex pins, PIfs (cxComp X scope (x :: fr) C cells s₀ H₀ ex pins) ifs tc) (hel : ∀ C cells s₀ H₀ ex pins, PE (cxComp X scope (x :: fr) C cells s₀ H₀ ex pins) elt te)
    (hs : ∀ x, foldedSetIterable iter X.env x = pure x := by intro _; rfl) : PE X (.ListComp elt [⟨.Name x px, iter, ifs, 0⟩] scope pos) (tComp wi ix tc te) := by
  intro pins s σ H Q I h
  rw [eval_ListComp]
  have clo' : ∀ y ∈ scope.names, y.2 = .free → ∃ c, X.env.cells.lookup y.1 = some c := fun y hy hk => I.ok.has y.1 (S.clo y hy hk)
  refine wpAny_comprehension_free (use := none) rfl hs (closureFor_eq clo') S.kind S.names (thn (hi pins s σ H _ I h) fun v s1 h1 => thn h1 fun itv s2 h2 => ?_)
  obtain ⟨it, fp, tn, J, H2, rfl, I2, T, st2, f2, hw⟩ := h2
  refine wpAny_newObj_type (newEnv_comp ?_)
  have st3 : tn 0 (pushCells ((s2.heap.push listO).push dictO) scope.names) := T.keep _ _ _ st2 fun b hb o e => pushCells_keeps _ _ b o (Heap.get?_push_of_some _ (Heap.get?_push_of_some _ e))
  have loop := comp_loop (px := px) (iter := iter) (pos := pos) (R := compPost (model X.prog X.w) X.A X.xe none (EP X pins σ Q) (.ref s2.heap.objs.size) (s2.heap.push listO).objs.size) hc S hel hif I2 T st2 f2 hw
    (fun s4 ys H4 ⟨m, hn⟩ q nD nC hb => ⟨m, hn, fun h' sb => ⟨.ref s2.heap.objs.size, _, hb h' sb, rfl, q _ nD⟩⟩)
  exact codeAny_compStart_list loop (T.self _ _ _ _ _ st3 loop)
def tSetComp (j : Nat) (wi : TI) (ix : List Nat) (tc : TT) (te : TE) : TS := fun D σ H => wi σ H fun J H1 => CompOk J σ ix tc te (fun ys H2 => ∀ p, H2 p = none → D.nx (σ.set j (some (.ref p))) (upd H2 p (.lst ys))) H1
theorem ps_setComp {j : Nat} {y : Str} {py spos : Pos} (hc : X.calm = true) (hN : X.N.Nodup) (hj : X.N[j]? = some y) (hy : Loc X.env.scope y) (S : CompSc X scope x fr ix) (hi : PI X (.Name x px) iter wi)
    (hif : ∀ C cells s₀ H₀ ex pins, PIfs (cxComp X scope (x :: fr) C cells s₀ H₀ ex pins) ifs tc) (hel : ∀ C cells s₀ H₀ ex pins, PE (cxComp X scope (x :: fr) C cells s₀ H₀ ex pins) elt te)
    (hs : ∀ x, foldedSetIterable iter X.env x = pure x := by intro _; rfl)
    (hsw : swapsWith (.ListComp elt [⟨.Name x px, iter, ifs, 0⟩] scope pos) (some (.Name y py)) spos.line X.env = pure true := by rfl)
    (hf : X.fn y = true ∨ X.env.scope.names.lookup y = some .local := by first | exact .inl rfl | exact .inr rfl | assumption) :
    PS X (.Assign [.Name y py] (.ListComp elt [⟨.Name x px, iter, ifs, 0⟩] scope pos) spos) (tSetComp j wi ix tc te) := by
  intro pins s σ H D I h
  rw [exec_Assign_Name_used _ _ _ _ hsw]
  refine wpAny_bind (wpAny_standAt (wpAny_bind ?_))
  show wpAny _ X.A (do let _ ← comprehension (.ListComp elt [⟨.Name x px, iter, ifs, 0⟩] scope pos) scope X.env _ (newList []) false (eval iter X.env) (some (assign (.Name y py) X.env))) _ _ s
  have clo' : ∀ y ∈ scope.names, y.2 = .free → ∃ c, X.env.cells.lookup y.1 = some c := fun y hy hk => I.ok.has y.1 (S.clo y hy hk)
  refine wpAny_bind (wpAny_mono (wpAny_comprehension_free (use := some (assign (.Name y py) X.env)) (Q := fun _ s' => SP X pins D .next s') rfl hs (closureFor_eq clo') S.kind S.names
    (thn (hi pins s σ H _ I h) fun v s1 h1 => thn h1 fun itv s2 h2 => ?_)) (fun _ s' hq => wpAny_pure (wpAny_pure hq)) fun _ _ e => e)
  obtain ⟨it, fp, tn, J, H2, rfl, I2, T, st2, f2, hw⟩ := h2
  refine wpAny_newObj_type (newEnv_comp ?_)
  have st3 : tn 0 (pushCells ((s2.heap.push listO).push dictO) scope.names) := T.keep _ _ _ st2 fun b hb o e => pushCells_keeps _ _ b o (Heap.get?_push_of_some _ (Heap.get?_push_of_some _ e))
  have z1 : (s2.heap.push listO).objs.size = s2.heap.objs.size + 1 := Heap.size_push ..
  have loop := comp_loop (px := px) (iter := iter) (pos := pos) (R := compPost (model X.prog X.w) X.A X.xe (some (assign (.Name y py) X.env)) (fun _ s' => SP X pins D .next s') (.ref s2.heap.objs.size) (s2.heap.push listO).objs.size) hc S hel hif I2 T st2 f2 hw
    (fun s4 ys H4 ⟨m, hn⟩ q nD nC4 hb => by
      have I5 : Inv X pins σ (upd H4 s2.heap.objs.size (.lst ys)) s4 := hb s4.heap (Heap.SameBut.refl ..)
      have CL : (s2.heap.push listO).objs.size ≠ X.env.locals := by rw [z1]; exact Nat.ne_of_gt (Nat.lt_succ_of_lt I2.lt)
      have CC : ∀ z c, X.env.cells.lookup z = some c → c ≠ (s2.heap.push listO).objs.size := fun z c e => by
        obtain ⟨v, w⟩ := I2.cell z c e
        rw [z1]
        exact Nat.ne_of_lt (Nat.lt_succ_of_lt w.lt)
      show wpAny _ X.A (assign (.Name y py) X.env (.ref s2.heap.objs.size)) _ _ s4
      refine wpAny_assign_Name (store_ok2 (v := .ref s2.heap.objs.size) I5 hN hj hy rfl (fun s6 I6 ⟨a, sa, ha⟩ => ?_) hf)
      have aC : (s2.heap.push listO).objs.size ≠ a := by
        rcases ha with e | e
        · rw [e]; exact CL
        · exact (CC _ _ e).symm
      refine ⟨m, hn.sameBut sa aC, fun h6 sb6 => ?_⟩
      have nC : upd H4 s2.heap.objs.size (.lst ys) (s2.heap.push listO).objs.size = none := by
        rw [upd_ne (by rw [z1]; exact Nat.succ_ne_self _)]
        exact nC4
      have I7 := Inv.turned (it := (s2.heap.push listO).objs.size) (t' := s6.toks) (h' := h6) I6 (fun b o hb e => (sb6.2 b hb).trans e) nC CL (.inr (by rw [z1]; exact Nat.le_succ_of_le I2.sz)) CC (fun p hp => by
        rw [z1]
        exact Nat.ne_of_lt (Nat.lt_succ_of_lt (Heap.lt_size (I2.pin p hp).1)))
      exact ⟨_, _, I7, q _ nD⟩)
  exact codeAny_compStart_list loop (T.self _ _ _ _ _ st3 loop)
end
end L2
set_option Elab.async false
set_option linter.all false
set_option maxRecDepth 100000
namespace L2
open PySem PySem.Spec PyProof.Rows
def compChk (sx : Scope) (NX : List Str) (scope : Scope) (x : Str) (fr : List Str) (ix : List Nat) : Bool :=
  (scope.kind == .function) && scope.names.all (fun y => y.2 != .local || scope.names.lookup y.1 == some .local) && decide ((scope.names.map (·.1)).Nodup) &&
  (scope.names.lookup x == some .local || scope.names.lookup x == some .cell) && scope.names.all (fun y => y.2 != .free || (sx.names.lookup y.1 == some .cell || sx.names.lookup y.1 == some .free)) &&
  decide (fr.length = ix.length) && decide ((x :: fr).Nodup) && (fr.zip ix).all fun p => NX[p.2]? == some p.1 && scope.names.lookup p.1 == some .free
theorem CompSc.of {X : Cx} {scope sx : Scope} {NX : List Str} {x : Str} {fr : List Str} {ix : List Nat} (hs : X.env.scope = sx) (hN : X.N = NX) (h : compChk sx NX scope x fr ix = true) : CompSc X scope x fr ix := by
  simp only [compChk, Bool.and_eq_true, decide_eq_true_eq, beq_iff_eq, List.all_eq_true, Bool.or_eq_true, bne_iff_ne, ne_eq] at h
  obtain ⟨⟨⟨⟨⟨⟨⟨h1, h2⟩, h3⟩, h4⟩, h5⟩, h6⟩, h7⟩, h8⟩ := h
  refine ⟨h1, fun y hy hk => ?_, h3, h4, fun y hy hk => ?_, fun k y e => ?_, h7, h6⟩
  · rcases h2 y hy with q | q
    · exact absurd hk q
    · exact q
  · show X.env.scope.names.lookup y.1 = _ ∨ X.env.scope.names.lookup y.1 = _
    rw [hs]
    rcases h5 y hy with q | q
    · exact absurd hk q
    · exact q
  · have hk : k < ix.length := by rw [← h6]; exact (List.getElem?_eq_some_iff.mp e).1
    have hz : (fr.zip ix)[k]? = some (y, ix[k]) := by
      rw [List.getElem?_zip_eq_some]
      exact ⟨e, List.getElem?_eq_getElem hk⟩
    obtain ⟨a1, a2⟩ := h8 _ (List.mem_of_getElem? hz)
    exact ⟨ix[k], List.getElem?_eq_getElem hk, by rw [hN]; exact a1, a2⟩
def relab (scope sx : Scope) : Scope :=
  { scope with names := scope.names.map fun (n, k) => if (k == .free && sx.kind == .function && sx.names.lookup n == some .cell) then (n, .cell) else (n, k) }
theorem CompSc.of2 {X : Cx} {scope1 scope sx : Scope} {N1 NX : List Str} {C : Addr} {cells : List (Str × Addr)} {s₀ : Shared} {H₀ : Hp} {ex : List Addr} {pins : List (Addr × Obj)} {x : Str} {fr : List Str} {ix : List Nat} (hs : X.env.scope = sx) (hN : N1 = NX) (h : compChk (relab scope1 sx) NX scope x fr ix = true) :
    CompSc (cxComp X scope1 N1 C cells s₀ H₀ ex pins) scope x fr ix := by
  refine CompSc.of (sx := relab scope1 sx) ?_ hN h
  subst hs
  rfl
theorem comp_list {K : PySem.W.Frag} {a : Addr} {xs : List V} {σ : St} {ix : List Nat} {tc : TT} {te : TE} {Q : List V → Hp → Prop} {H : Hp} (Pv : Nat → List V → Hp → Prop) (h0 : Pv 0 [] H) (hl : ∀ i ys H, i ≤ xs.length → Pv i ys H → SqL K H a xs ∧ ys.length < sizeLine)
    (hs : ∀ (i : Nat) x ys H, xs[i]? = some x → Pv i ys H → tc (sub σ ix (some x)) H fun b H2 => if b = true then te (sub σ ix (some x)) H2 fun y H3 => Pv (i + 1) (ys ++ [y]) H3 else Pv (i + 1) ys H2) (hd : ∀ ys H, Pv xs.length ys H → Q ys H) : CompOk (Itl K a) σ ix tc te Q H := by
  refine ⟨fun i m ys H => m = xs.length - i ∧ i ≤ xs.length ∧ Pv i ys H, ⟨_, rfl, Nat.zero_le _, h0⟩, ?_⟩
  rintro i m ys H ⟨rfl, hi, p⟩
  obtain ⟨q, hz⟩ := hl i ys H hi p
  refine ⟨hz, ?_⟩
  by_cases hlt : i < xs.length
  · refine .inr ⟨⟨xs, xs[i], q, by simp [hlt]⟩, fun y H3 => Pv (i + 1) (ys ++ [y]) H3, fun H2 => Pv (i + 1) ys H2, fun y H3 z => ⟨xs.length - (i + 1), by omega, rfl, hlt, z⟩, fun H2 z => ⟨xs.length - (i + 1), by omega, rfl, hlt, z⟩, fun x H' y => ?_⟩
    obtain ⟨e, y⟩ := y
    subst e
    exact hs i x ys _ (y xs q) p
  · have e : i = xs.length := by omega
    subst e
    exact .inl ⟨⟨xs, q, Nat.le_refl _⟩, hd ys H p⟩
theorem comp_range {lo : Int} {n : Nat} {σ : St} {ix : List Nat} {tc : TT} {te : TE} {Q : List V → Hp → Prop} {H : Hp} (Pv : Nat → List V → Hp → Prop) (h0 : Pv 0 [] H) (hl : ∀ i ys H, i ≤ n → Pv i ys H → ys.length < sizeLine)
    (hs : ∀ (i : Nat) ys H, i < n → Pv i ys H → tc (sub σ ix (some (.int (lo + i)))) H fun b H2 => if b = true then te (sub σ ix (some (.int (lo + i)))) H2 fun y H3 => Pv (i + 1) (ys ++ [y]) H3 else Pv (i + 1) ys H2) (hd : ∀ ys H, Pv n ys H → Q ys H) : CompOk (Itr lo n) σ ix tc te Q H := by
  refine ⟨fun i m ys H => m = n - i ∧ i ≤ n ∧ Pv i ys H, ⟨_, rfl, Nat.zero_le _, h0⟩, ?_⟩
  rintro i m ys H ⟨rfl, hi, p⟩
  refine ⟨hl i ys H hi p, ?_⟩
  by_cases hlt : i < n
  · refine .inr ⟨hlt, fun y H3 => Pv (i + 1) (ys ++ [y]) H3, fun H2 => Pv (i + 1) ys H2, fun y H3 z => ⟨n - (i + 1), by omega, rfl, hlt, z⟩, fun H2 z => ⟨n - (i + 1), by omega, rfl, hlt, z⟩, fun x H' y => ?_⟩
    obtain ⟨e, y⟩ := y
    subst e y
    exact hs i ys _ hlt p
  · have e : i = n := by omega
    subst e
    exact .inl ⟨Nat.le_refl _, hd ys H p⟩
theorem comp_listN {K : PySem.W.Frag} {a : Addr} {xs : List V} {σ : St} {ix : List Nat} {te : TE} {Q : List V → Hp → Prop} {H : Hp} (Pv : Nat → List V → Hp → Prop) (h0 : Pv 0 [] H) (hl : ∀ i ys H, i ≤ xs.length → Pv i ys H → SqL K H a xs ∧ ys.length < sizeLine)
    (hs : ∀ (i : Nat) x ys H, xs[i]? = some x → Pv i ys H → te (sub σ ix (some x)) H fun y H3 => Pv (i + 1) (ys ++ [y]) H3) (hd : ∀ ys H, Pv xs.length ys H → Q ys H) : CompOk (Itl K a) σ ix tTrue te Q H :=
  comp_list Pv h0 hl (fun i x ys H e p => iteT (A := te (sub σ ix (some x)) H fun y H3 => Pv (i + 1) (ys ++ [y]) H3) (B := Pv (i + 1) ys H) (hs i x ys H e p)) hd
theorem comp_rangeN {lo : Int} {n : Nat} {σ : St} {ix : List Nat} {te : TE} {Q : List V → Hp → Prop} {H : Hp} (Pv : Nat → List V → Hp → Prop) (h0 : Pv 0 [] H) (hl : ∀ i ys H, i ≤ n → Pv i ys H → ys.length < sizeLine)
    (hs : ∀ (i : Nat) ys H, i < n → Pv i ys H → te (sub σ ix (some (.int (lo + i)))) H fun y H3 => Pv (i + 1) (ys ++ [y]) H3) (hd : ∀ ys H, Pv n ys H → Q ys H) : CompOk (Itr lo n) σ ix tTrue te Q H :=
  comp_range Pv h0 hl (fun i ys H e p => iteT (A := te (sub σ ix (some (.int (lo + i)))) H fun y H3 => Pv (i + 1) (ys ++ [y]) H3) (B := Pv (i + 1) ys H) (hs i ys H e p)) hd
section
variable {X : Cx}
end
theorem nodup_len {α : Type} [DecidableEq α] : ∀ {l us : List α}, l.Nodup → (∀ x ∈ l, x ∈ us) → l.length ≤ us.length
  | [], _, _, _ => Nat.zero_le _
  | x :: l, us, hn, hs => by
    obtain ⟨h1, h2⟩ := List.nodup_cons.mp hn
    have hx : x ∈ us := hs x List.mem_cons_self
    have ih := nodup_len (l := l) (us := us.erase x) h2 fun y hy => (List.mem_erase_of_ne (fun e => h1 (by rw [← e]; exact hy))).mpr (hs y (List.mem_cons_of_mem _ hy))
    rw [List.length_erase_of_mem hx] at ih
    have : 0 < us.length := List.length_pos_of_mem hx
    rw [List.length_cons]
    omega
theorem gname_rd {i : Nat} {v : V} {σ : St} {H : Hp} {Q : St → Hp → Prop} (h : Q (σ.set i (some v)) H) : gName i v σ H Q := h
theorem tseq_rd {t u : TS} {D : Ends} {σ : St} {H : Hp} (h : t { D with nx := u D } σ H) : tSeq t u D σ H := h
section
variable {X : Cx} {K : PySem.W.Frag}
theorem ix_listK (h : X.K = K) : IxR X (rIxL K) := by subst h; exact ix_list
theorem ix_tupK (h : X.K = K) : IxR X (rIxT K) := by subst h; exact ix_tup
theorem call_len_seqK (h : X.K = K) : CallR X (.builtin "len") (fun xs H Q => ∃ p ys, xs = [.ref p] ∧ (SqL K H p ys ∨ SqT K H p ys) ∧ Q (.int ys.length) H) := by subst h; exact call_len_seq
theorem mt_indexK (h : X.K = K) : MtM X "list.index" (rIndex K) := by subst h; exact mt_index
theorem pi_listK {tg l : Expr} {tl : TE} (h : X.K = K) (hl : PE X l tl) : PI X tg l (iList K tl) := by subst h; exact pi_list hl
theorem pe_bmK {o e : Expr} {es : List Expr} {to : TE} {t : TA} {name : Str} {apos cpos : Pos} {T id : String} {r : V → List V → Hp → VK → Prop} (h : X.K = K) (pa : PlainAttrs T) (slot : Slot T name id) (hty : typeOf (.builtin id) = pure (.type "method_descriptor")) (hm : MtR X id r) (ho : PE X o to) (ha : PA X (e :: es) t)
    (hbase : attributeBase o name X.env (eval o X.env) = eval o X.env := by rfl)
    (hfew : ((backTo cpos (starEach (e :: es) X.env)).all (fun x => !x.1) && (backToKw cpos (keywordEach [] X.env)).all (fun x => x.1.isSome)
      && decide ((e :: es).length + ([] : List Keyword).length + (if ([] : List Keyword).isEmpty then 0 else 1) < 30)) = true := by rfl)
    (hline : (apos.endLine == cpos.line) = true := by rfl) (hs : starEach (e :: es) X.env = (false, eval e X.env) :: starEach es X.env := by rfl) (hplain : (backTo cpos (starEach es X.env)).any (·.1) = false := by rfl) :
    PE X (.Call (.Attribute o name apos) (e :: es) [] cpos) (tBM K T r to t) := by
  subst h
  exact pe_bm pa slot hty hm ho ha hbase hfew hline hs hplain
end
section
variable {X : Cx} {es : List Expr} {te : TE} {t : TA}
theorem pa_conC {a b c} (ha : PE X (.Constant a b c) te) (hr : PA X es t) : PA X (.Constant a b c :: es) (tCons te t) := pa_cons ha hr
theorem pa_conN {a b} (ha : PE X (.Name a b) te) (hr : PA X es t) : PA X (.Name a b :: es) (tCons te t) := pa_cons ha hr
theorem pa_conT {a b c} (ha : PE X (.Tuple a b c) te) (hr : PA X es t) : PA X (.Tuple a b c :: es) (tCons te t) := pa_cons ha hr
theorem pa_conB {a b c d} (ha : PE X (.BinOp a b c d) te) (hr : PA X es t) : PA X (.BinOp a b c d :: es) (tCons te t) := pa_cons ha hr
theorem pa_conS {a b c} (ha : PE X (.Subscript a b c) te) (hr : PA X es t) : PA X (.Subscript a b c :: es) (tCons te t) := pa_cons ha hr
theorem pa_conK {a b c d} (ha : PE X (.Call a b c d) te) (hr : PA X es t) : PA X (.Call a b c d :: es) (tCons te t) := pa_cons ha hr
theorem pa_conL {a b} (ha : PE X (.List a b) te) (hr : PA X es t) : PA X (.List a b :: es) (tCons te t) := pa_cons ha hr
theorem pa_conU {a b c} (ha : PE X (.UnaryOp a b c) te) (hr : PA X es t) : PA X (.UnaryOp a b c :: es) (tCons te t) := pa_cons ha hr
theorem pa_conP {a b c d} (ha : PE X (.Compare a b c d) te) (hr : PA X es t) : PA X (.Compare a b c d :: es) (tCons te t) := pa_cons ha hr
theorem pa_conM {a b c d} (ha : PE X (.ListComp a b c d) te) (hr : PA X es t) : PA X (.ListComp a b c d :: es) (tCons te t) := pa_cons ha hr
end
theorem pe_powC {X : Cx} {a b : Int} {k1 k2} {p1 p2 p3 : Pos} (hc : CPow a b) : PE X (.BinOp (.Constant (.int a) k1 p1) .Pow (.Constant (.int b) k2 p2) p3) (tC (.int (a ^ b.toNat))) := by
  intro pins s σ H Q I h
  exact (pe_op op_pow pe_int pe_int) pins s σ H Q I ⟨a, b, rfl, rfl, hc, h⟩
end L2
set_option Elab.async false
set_option linter.all false
set_option maxRecDepth 100000
namespace Cn
open PySem L2
inductive Side where
  | nm (s : Str) | nu (i : Int)
def Side.v : Side → V
  | .nm s => .str s
  | .nu i => .int i
inductive Cond where
  | less (a b : Side) | same (a b : Side) | no (c : Cond) | an (c d : Cond) | or (c d : Cond)
namespace Cond
def size : Cond → Nat
  | .less _ _ => 1
  | .same _ _ => 1
  | .no c => c.size + 1
  | .an c d => c.size + d.size + 1
  | .or c d => c.size + d.size + 1
def leaf : Cond → Bool
  | .less _ _ => true
  | .same _ _ => true
  | _ => false
theorem size_pos (c : Cond) : 1 ≤ c.size := by
  cases c <;> simp only [size] <;> omega
end Cond
def num (hs : List Str) (rs : List Int) : Side → Int
  | .nm s => rs.getD (hs.idxOf s) 0
  | .nu i => i
def ev (hs : List Str) (rs : List Int) : Cond → Bool
  | .less a b => decide (num hs rs a < num hs rs b)
  | .same a b => decide (num hs rs a = num hs rs b)
  | .no c => !ev hs rs c
  | .an c d => ev hs rs c && ev hs rs d
  | .or c d => ev hs rs c || ev hs rs d
def CondAt (H : Hp) : Cond → V → Prop
  | .less a b, v => ∃ p, v = .ref p ∧ H p = some (.tup [.str "less", a.v, b.v])
  | .same a b, v => ∃ p, v = .ref p ∧ H p = some (.tup [.str "same", a.v, b.v])
  | .no c, v => ∃ p x, v = .ref p ∧ H p = some (.tup [.str "not", x]) ∧ CondAt H c x
  | .an c d, v => ∃ p x y, v = .ref p ∧ H p = some (.tup [.str "and", x, y]) ∧ CondAt H c x ∧ CondAt H d y
  | .or c d, v => ∃ p x y, v = .ref p ∧ H p = some (.tup [.str "or", x, y]) ∧ CondAt H c x ∧ CondAt H d y
theorem CondAt.mono {H H' : Hp} (t : ∀ b xs, H b = some (.tup xs) → H' b = some (.tup xs)) : ∀ {c : Cond} {v : V}, CondAt H c v → CondAt H' c v
  | .less _ _, _, h => by
    obtain ⟨p, rfl, h⟩ := h
    exact ⟨p, rfl, t _ _ h⟩
  | .same _ _, _, h => by
    obtain ⟨p, rfl, h⟩ := h
    exact ⟨p, rfl, t _ _ h⟩
  | .no _, _, h => by
    obtain ⟨p, x, rfl, h, h1⟩ := h
    exact ⟨p, x, rfl, t _ _ h, h1.mono t⟩
  | .an _ _, _, h => by
    obtain ⟨p, x, y, rfl, h, h1, h2⟩ := h
    exact ⟨p, x, y, rfl, t _ _ h, h1.mono t, h2.mono t⟩
  | .or _ _, _, h => by
    obtain ⟨p, x, y, rfl, h, h1, h2⟩ := h
    exact ⟨p, x, y, rfl, t _ _ h, h1.mono t, h2.mono t⟩
theorem CondAt.same {H H' : Hp} {c : Cond} {v : V} (e : Same H H') (h : CondAt H c v) : CondAt H' c v := h.mono fun b xs q => e b _ q
end Cn
set_option Elab.async false
set_option linter.all false
set_option maxRecDepth 100000
namespace Rw
open PySem L2
abbrev refs (rs : List (Addr × List Int)) : List V := rs.map fun r => V.ref r.1
def RowsAt (H : Hp) (p : Addr) (rs : List (Addr × List Int)) : Prop := H p = some (.lst (refs rs)) ∧ ∀ r ∈ rs, r.1 ≠ p ∧ H r.1 = some (.lst (r.2.map V.int))
theorem RowsAt.same {H H' : Hp} {p : Addr} {rs : List (Addr × List Int)} (h : RowsAt H p rs) (e : Same H H') : RowsAt H' p rs := ⟨e _ _ h.1, fun r m => ⟨(h.2 r m).1, e _ _ (h.2 r m).2⟩⟩
theorem RowsAt.kp {H H' : Hp} {l p : Addr} {rs : List (Addr × List Int)} (h : RowsAt H p rs) (e : Kp l H H') (np : p ≠ l) (nr : ∀ r ∈ rs, r.1 ≠ l) : RowsAt H' p rs := ⟨e _ _ np h.1, fun r m => ⟨(h.2 r m).1, e _ _ (nr r m) (h.2 r m).2⟩⟩
theorem rows_nil {H : Hp} {p : Addr} (h : H p = some (.lst [])) : RowsAt H p [] := ⟨h, fun _ z => by cases z⟩
theorem RowsAt.push {H : Hp} {p q : Addr} {x : List Int} {rs : List (Addr × List Int)} (h : RowsAt H p rs) (nq : q ≠ p) (hq : H q = some (.lst (x.map V.int))) :
    RowsAt (upd H p (.lst ((refs rs) ++ [V.ref q]))) p (rs ++ [(q, x)]) := by
  refine ⟨by rw [upd_same]; simp [refs], fun r m => ?_⟩
  rcases List.mem_append.mp m with m | m
  · exact ⟨(h.2 r m).1, by rw [upd_ne (h.2 r m).1]; exact (h.2 r m).2⟩
  · rw [List.mem_singleton.mp m]
    exact ⟨nq, by rw [upd_ne nq]; exact hq⟩
theorem at_row {rs : List (Addr × List Int)} {i : Nat} (h : i < rs.length) : (refs rs)[i]? = some (V.ref rs[i].1) := by
  rw [List.getElem?_map, List.getElem?_eq_getElem h]
  rfl
theorem int_at {xs : List Int} {i : Nat} (h : i < xs.length) : (xs.map V.int)[i]? = some (.int (xs.getD i 0)) := by
  rw [List.getElem?_map, List.getElem?_eq_getElem h, List.getD_eq_getElem?_getD, List.getElem?_eq_getElem h]
  rfl
theorem atI_row {rs : List (Addr × List Int)} {i : Nat} (h : i < rs.length) : atI (refs rs) (0 + (i : Int)) = some (V.ref rs[i].1) := by
  rw [Int.zero_add]
  exact atI_nat (at_row h)
end Rw
set_option Elab.async false
set_option linter.all false
set_option maxRecDepth 100000
namespace L2
open PySem PySem.Spec PyProof.Rows PySem.W
def kOk (n : Nat) (k : Nat → Int) {α : Type} (Q : α → Prop) : KasT α → Prop
  | .ret a => Q a
  | .ask i j f => i < n ∧ j < n ∧ kOk n k Q (f (decide (k i < k j)))
theorem kOk_bind {n : Nat} {k : Nat → Int} {α β : Type} {Q : β → Prop} {f : α → KasT β} : ∀ {t : KasT α}, kOk n k (fun a => kOk n k Q (f a)) t → kOk n k Q (t.bind f)
  | .ret _, h => h
  | .ask _ _ _, h => ⟨h.1, h.2.1, kOk_bind h.2.2⟩
theorem kOk_mono {n : Nat} {k : Nat → Int} {α : Type} {Q Q' : α → Prop} (hq : ∀ a, Q a → Q' a) : ∀ {t : KasT α}, kOk n k Q t → kOk n k Q' t
  | .ret _, h => hq _ h
  | .ask _ _ _, h => ⟨h.1, h.2.1, kOk_mono hq h.2.2⟩
theorem kOk_wp {n : Nat} {k : Nat → Int} {cmp : Nat → Nat → (Bool → Shared → Prop) → Shared → Prop} {s : Shared} (hc : ∀ i j C, i < n → j < n → C (decide (k i < k j)) s → cmp i j C s) {α : Type} {Q : α → Shared → Prop} :
    ∀ {t : KasT α}, kOk n k (fun a => Q a s) t → t.kasWp cmp Q s
  | .ret _, h => h
  | .ask _ _ _, h => hc _ _ _ h.1 h.2.1 (kOk_wp hc h.2.2)
theorem kOk_if {n : Nat} {k : Nat → Int} {α : Type} {Q : α → Prop} {i j : Nat} {a b : KasT α} (hi : i < n) (hj : j < n) (h1 : k i < k j → kOk n k Q a) (h2 : ¬ k i < k j → kOk n k Q b) :
    kOk n k Q (.ask i j fun c => if c = true then a else b) := by
  refine ⟨hi, hj, ?_⟩
  by_cases c : k i < k j
  · show kOk n k Q (if decide (k i < k j) = true then a else b)
    rw [if_pos (by simpa using c)]; exact h1 c
  · show kOk n k Q (if decide (k i < k j) = true then a else b)
    rw [if_neg (by simpa using c)]; exact h2 c
def Rk (k : Nat → Int) (x y : Nat) : Prop := k x < k y ∨ (k x = k y ∧ x < y)
theorem Rk.trans {k : Nat → Int} {x y z : Nat} (h : Rk k x y) (h' : Rk k y z) : Rk k x z := by unfold Rk at *; omega
def at' (p : Array Nat) (i : Nat) : Nat := (p[i]?).getD 0
theorem getD_at (p : Array Nat) (i : Nat) : p.getD i 0 = at' p i := by
  unfold at'; simp [Array.getD_eq_getD_getElem?]
structure Ar (n m : Nat) (p : Array Nat) : Prop where
  sz : p.size = n
  mn : m ≤ n
  id : ∀ i, m ≤ i → i < n → at' p i = i
  lo : ∀ i, i < m → at' p i < m
  pm : p.Perm (List.range n).toArray
theorem Ar.lt {n m : Nat} {p : Array Nat} (h : Ar n m p) {i : Nat} (hi : i < n) : at' p i < n := by
  by_cases e : i < m
  · exact Nat.lt_of_lt_of_le (h.lo i e) h.mn
  · rw [h.id i (by omega) hi]; exact hi
theorem Ar.up {n m m' : Nat} {p : Array Nat} (h : Ar n m p) (h1 : m ≤ m') (h2 : m' ≤ n) : Ar n m' p := by
  refine ⟨h.sz, h2, fun i a b => h.id i (by omega) b, fun i a => ?_, h.pm⟩
  by_cases e : i < m
  · have := h.lo i e; omega
  · rw [h.id i (by omega) (by omega)]; exact a
def Up (k : Nat → Int) (m : Nat) (p : Array Nat) : Prop := ∀ i j, i < j → j < m → Rk k (at' p i) (at' p j)
def Dn (k : Nat → Int) (m : Nat) (p : Array Nat) : Prop := ∀ i j, i < j → j < m → Rk k (at' p j) (at' p i)
theorem at_rev {p : Array Nat} {i j : Nat} (hj : j ≤ p.size) (x : Nat) : at' (kas_rev p i j) x = if i ≤ x ∧ x < j then at' p (i + j - 1 - x) else at' p x := by
  unfold at' kas_rev; rw [getElem?_mirror_all hj]; split <;> rfl
theorem Ar.rev {n m : Nat} {p : Array Nat} (h : Ar n m p) {i j : Nat} (hj : j ≤ m) : Ar n m (kas_rev p i j) := by
  have hs : j ≤ p.size := by rw [h.sz]; exact Nat.le_trans hj h.mn
  refine ⟨by show (mirror _ _ _ _).size = n; rw [mirror_size, h.sz], h.mn, fun x a b => ?_, fun x a => ?_, (mirror_perm _ _ _ _).trans h.pm⟩
  · rw [at_rev hs, if_neg (by omega), h.id x a b]
  · rw [at_rev hs]
    split
    · exact h.lo _ (by omega)
    · exact h.lo _ a
theorem Dn.rev {k : Nat → Int} {n m : Nat} {p : Array Nat} (A : Ar n m p) (h : Dn k m p) : Up k m (kas_rev p 0 m) := by
  have hs : m ≤ p.size := by rw [A.sz]; exact A.mn
  intro i j hij hj
  rw [at_rev hs, at_rev hs, if_pos (by omega), if_pos (by omega)]
  exact h _ _ (by omega) (by omega)
theorem asc_ok {n : Nat} {k : Nat → Int} {p : Array Nat} : ∀ (f m : Nat), 1 ≤ m → m + f = n → Ar n m p → Up k m p →
    kOk n k (fun m' => m ≤ m' ∧ m' ≤ n ∧ Ar n m' p ∧ Up k m' p) (kas_asc p f m)
  | 0, m, _, hf, A, U => ⟨Nat.le_refl _, by omega, A, U⟩
  | f + 1, m, h1, hf, A, U => by
    show kOk n k _ (KasT.ask _ _ _)
    rw [getD_at, getD_at]
    have em := A.id m (Nat.le_refl _) (by omega)
    have lm := A.lo (m - 1) (by omega)
    refine kOk_if (by rw [em]; omega) (by omega) (fun c => ?_) fun c => ?_
    · skip
      exact ⟨Nat.le_refl _, by omega, A, U⟩
    · skip
      refine kOk_mono (fun a h => ⟨by omega, h.2⟩) (asc_ok f (m + 1) (by omega) (by omega) (A.up (by omega) (by omega)) ?_)
      have last : Rk k (at' p (m - 1)) (at' p m) := by unfold Rk; omega
      intro i j hij hj
      by_cases e : j < m
      · exact U i j hij e
      · obtain rfl : j = m := by omega
        by_cases e2 : i = j - 1
        · rw [e2]; exact last
        · exact (U i (j - 1) (by omega) (by omega)).trans last
structure Fal (k : Nat → Int) (m q : Nat) (p : Array Nat) : Prop where
  qm : q + 1 ≤ m
  fr : ∀ i j, i < j → j < m - (q + 1) → Rk k (at' p j) (at' p i)
  st : ∀ i j, i < m - (q + 1) → m - (q + 1) ≤ j → j < m → k (at' p j) < k (at' p i)
  eq : ∀ i, m - (q + 1) ≤ i → i < m → k (at' p i) = k (at' p (m - 1))
  or : ∀ i j, i < j → j < m → m - (q + 1) ≤ i → at' p i < at' p j
theorem Fal.dn {k : Nat → Int} {n m q : Nat} {p : Array Nat} (A : Ar n m p) (h : Fal k m q p) : Dn k m (kas_rev p (m - (q + 1)) m) ∧ ∀ x, x < m → k (at' p (m - 1)) ≤ k (at' (kas_rev p (m - (q + 1)) m) x) := by
  have hs : m ≤ p.size := by rw [A.sz]; exact A.mn
  have hq := h.qm
  have lowx : ∀ x, x < m → k (at' p (m - 1)) ≤ k (at' p x) := fun x hx => by
    by_cases e : x < m - (q + 1)
    · have := h.st x (m - 1) e (by omega) (by omega); omega
    · rw [h.eq x (by omega) hx]; exact Int.le_refl _
  refine ⟨fun i j hij hj => ?_, fun x hx => ?_⟩
  · rw [at_rev hs, at_rev hs]
    by_cases ei : m - (q + 1) ≤ i
    · rw [if_pos (by omega), if_pos (by omega)]
      have a := h.eq (m - (q + 1) + m - 1 - i) (by omega) (by omega)
      have b := h.eq (m - (q + 1) + m - 1 - j) (by omega) (by omega)
      have c := h.or (m - (q + 1) + m - 1 - j) (m - (q + 1) + m - 1 - i) (by omega) (by omega) (by omega)
      unfold Rk; omega
    · rw [if_neg (show ¬ (m - (q + 1) ≤ i ∧ i < m) by omega)]
      split
      · exact Or.inl (h.st _ _ (by omega) (by omega) (by omega))
      · exact h.fr _ _ (by omega) (by omega)
  · rw [at_rev hs]
    split
    · exact lowx _ (by omega)
    · exact lowx _ hx
theorem Fal.dn0 {k : Nat → Int} {m : Nat} {p : Array Nat} (h : Fal k m 0 p) : Dn k m p ∧ ∀ x, x < m → k (at' p (m - 1)) ≤ k (at' p x) := by
  have hq := h.qm
  refine ⟨fun i j hij hj => ?_, fun x hx => ?_⟩
  · by_cases e : j < m - 1
    · exact h.fr i j hij e
    · exact Or.inl (h.st i j (by omega) (by omega) hj)
  · by_cases e : x < m - 1
    · have := h.st x (m - 1) e (by omega) (by omega); omega
    · obtain rfl : x = m - 1 := by omega
      exact Int.le_refl _
theorem Fal.step {k : Nat → Int} {n m : Nat} {p : Array Nat} (hm : m < n) (h : Dn k m p) {y : Int} (hy : ∀ x, x < m → y ≤ k (at' p x)) (hl : k (at' p m) < y) : Fal k (m + 1) 0 p := by
  refine ⟨by omega, fun i j hij hj => h i j hij (by omega), fun i j hi hj hm' => ?_, fun i a b => ?_, fun i j a b c => by omega⟩
  · obtain rfl : j = m := by omega
    have := hy i (by omega)
    omega
  · obtain rfl : i = m := by omega
    simp
theorem desc_ok {n : Nat} {k : Nat → Int} : ∀ (f : Nat) (p : Array Nat) (m q : Nat), m + f = n → Ar n m p → Fal k m q p →
    kOk n k (fun r => m ≤ r.2.1 ∧ r.2.1 ≤ n ∧ Ar n r.2.1 r.1 ∧ Fal k r.2.1 r.2.2 r.1) (kas_desc f p m q)
  | 0, p, m, q, hf, A, F => ⟨Nat.le_refl _, by show m ≤ n; omega, A, F⟩
  | f + 1, p, m, q, hf, A, F => by
    show kOk n k _ (KasT.ask _ _ _)
    rw [getD_at, getD_at]
    have hq := F.qm
    have em := A.id m (Nat.le_refl _) (by omega)
    have lm := A.lo (m - 1) (by omega)
    refine kOk_if (by rw [em]; omega) (by omega) (fun c => ?_) fun c => ?_
    · skip
      have hs : m ≤ p.size := by rw [A.sz]; omega
      by_cases q0 : q > 0
      · rw [if_pos q0]
        have A' : Ar n m (kas_rev p (m - (q + 1)) m) := A.rev (Nat.le_refl _)
        have e' : at' (kas_rev p (m - (q + 1)) m) m = at' p m := by rw [at_rev hs, if_neg (by omega)]
        exact kOk_mono (fun a h => ⟨by omega, h.2⟩) (desc_ok f _ (m + 1) 0 (by omega) (A'.up (by omega) (by omega)) (Fal.step (n := n) (by omega) (F.dn A).1 (F.dn A).2 (by rw [e']; exact c)))
      · rw [if_neg q0]
        obtain rfl : q = 0 := by omega
        exact kOk_mono (fun a h => ⟨by omega, h.2⟩) (desc_ok f _ (m + 1) 0 (by omega) (A.up (by omega) (by omega)) (Fal.step (n := n) (by omega) F.dn0.1 F.dn0.2 c))
    · refine kOk_if (by omega) (by rw [em]; omega) (fun d => ?_) fun d => ?_
      · exact ⟨Nat.le_refl _, by show m ≤ n; omega, A, F⟩
      · have ee : k (at' p m) = k (at' p (m - 1)) := by omega
        refine kOk_mono (fun a h => ⟨by omega, h.2⟩) (desc_ok f _ (m + 1) (q + 1) (by omega) (A.up (by omega) (by omega)) ⟨by omega, fun i j hij hj => ?_, fun i j hi hj hm => ?_, fun i a b => ?_, fun i j hij hj hi => ?_⟩)
        · exact F.fr i j hij (by omega)
        · by_cases e : j < m
          · exact F.st i j (by omega) (by omega) e
          · obtain rfl : j = m := by omega
            rw [ee]; exact F.st i (j - 1) (by omega) (by omega) (by omega)
        · rw [Nat.add_sub_cancel]
          by_cases e : i < m
          · rw [F.eq i (by omega) e, ee]
          · obtain rfl : i = m := by omega
            rfl
        · by_cases e : j < m
          · exact F.or i j hij e (by omega)
          · obtain rfl : j = m := by omega
            rw [em]; exact A.lo i (by omega)
theorem tail3_ok {n m : Nat} {k : Nat → Int} {p : Array Nat} (h1 : 1 ≤ m) (A : Ar n m p) (D : Dn k m p) :
    kOk n k (fun r => 1 ≤ r.1 ∧ r.1 ≤ n ∧ Ar n r.1 r.2 ∧ Up k r.1 r.2) (kas_tail3 m n p) := by
  refine kOk_bind (kOk_mono (fun a h => ?_) (asc_ok (n - m) m h1 (by have := A.mn; omega) (A.rev (Nat.le_refl _)) (D.rev A)))
  exact ⟨by show 1 ≤ a; omega, h.2.1, h.2.2.1, h.2.2.2⟩
theorem descPart_ok {n m : Nat} {k : Nat → Int} {p : Array Nat} (h1 : m + 1 ≤ n) (A : Ar n (m + 1) p) (F : Fal k (m + 1) 0 p) :
    kOk n k (fun r => 1 ≤ r.1 ∧ r.1 ≤ n ∧ Ar n r.1 r.2 ∧ Up k r.1 r.2) (kas_descPart m n p) := by
  refine kOk_bind (kOk_mono (fun a h => ?_) (desc_ok (n - (m + 1)) p (m + 1) 0 (by omega) A F))
  obtain ⟨b1, b2, b3, b4⟩ := h
  by_cases q0 : a.2.2 > 0
  · rw [if_pos q0]
    exact tail3_ok (by omega) (b3.rev (Nat.le_refl _)) (b4.dn b3).1
  · rw [if_neg q0]
    obtain ⟨p', m', q'⟩ := a
    obtain rfl : q' = 0 := by simpa using q0
    exact tail3_ok (by have : m + 1 ≤ m' := b1; show 1 ≤ m'; omega) b3 b4.dn0.1
theorem asc_ok2 {n : Nat} {k : Nat → Int} {p : Array Nat} : ∀ (f m : Nat), 1 ≤ m → m + f = n → Ar n m p → Up k m p →
    kOk n k (fun m' => m ≤ m' ∧ m' ≤ n ∧ Ar n m' p ∧ Up k m' p ∧ (m' < n → k (at' p m') < k (at' p (m' - 1)))) (kas_asc p f m)
  | 0, m, _, hf, A, U => ⟨Nat.le_refl _, by omega, A, U, fun h => by omega⟩
  | f + 1, m, h1, hf, A, U => by
    show kOk n k _ (KasT.ask _ _ _)
    rw [getD_at, getD_at]
    have em := A.id m (Nat.le_refl _) (by omega)
    have lm := A.lo (m - 1) (by omega)
    refine kOk_if (by rw [em]; omega) (by omega) (fun c => ?_) fun c => ?_
    · skip
      exact ⟨Nat.le_refl _, by omega, A, U, fun _ => c⟩
    · skip
      refine kOk_mono (fun a h => ⟨by omega, h.2⟩) (asc_ok2 f (m + 1) (by omega) (by omega) (A.up (by omega) (by omega)) ?_)
      have last : Rk k (at' p (m - 1)) (at' p m) := by unfold Rk; omega
      intro i j hij hj
      by_cases e : j < m
      · exact U i j hij e
      · obtain rfl : j = m := by omega
        by_cases e2 : i = j - 1
        · rw [e2]; exact last
        · exact (U i (j - 1) (by omega) (by omega)).trans last
theorem count_ok {n : Nat} {k : Nat → Int} {p : Array Nat} (hn : 1 ≤ n) (A : Ar n 1 p) : kOk n k (fun r => 1 ≤ r.1 ∧ r.1 ≤ n ∧ Ar n r.1 r.2 ∧ Up k r.1 r.2) (kas_count n p) := by
  refine kOk_bind (kOk_mono (fun m h => ?_) (asc_ok2 (n - 1) 1 (Nat.le_refl _) (by omega) A (fun i j a b => by omega)))
  obtain ⟨b1, b2, b3, b4, b5⟩ := h
  by_cases e : m = n
  · rw [if_pos (by simpa using e)]
    exact ⟨b1, b2, b3, b4⟩
  rw [if_neg (by simpa using e)]
  have hs : m ≤ p.size := by rw [A.sz]; exact b2
  have b5' := b5 (by omega)
  by_cases e1 : m > 1
  · rw [if_pos e1]
    show kOk n k _ (KasT.ask _ _ _)
    rw [getD_at, getD_at]
    refine kOk_if (b3.lt (by omega)) (b3.lt (by omega)) (fun c => ?_) fun c => ?_
    · exact ⟨b1, b2, b3, b4⟩
    · have A' : Ar n m (kas_rev p 0 m) := b3.rev (Nat.le_refl _)
      have eqs : ∀ i, i < m → k (at' p i) = k (at' p (m - 1)) := fun i hi => by
        have h0 : k (at' p 0) ≤ k (at' p i) := by
          by_cases e : i = 0
          · rw [e]; exact Int.le_refl _
          · have := b4 0 i (by omega) hi; unfold Rk at this; omega
        have h1 : k (at' p i) ≤ k (at' p (m - 1)) := by
          by_cases e : i = m - 1
          · rw [← e]; exact Int.le_refl _
          · have := b4 i (m - 1) (by omega) (by omega); unfold Rk at this; omega
        omega
      have D : Dn k m (kas_rev p 0 m) := fun i j hij hj => by
        rw [at_rev hs, at_rev hs, if_pos (by omega), if_pos (by omega)]
        exact b4 _ _ (by omega) (by omega)
      refine descPart_ok (by omega) (A'.up (by omega) (by omega)) (Fal.step (n := n) (y := k (at' p (m - 1))) (by omega) D (fun x hx => ?_) ?_)
      · rw [at_rev hs, if_pos (by omega)]
        have := eqs (0 + m - 1 - x) (by omega)
        omega
      · rw [at_rev hs, if_neg (by omega)]; exact b5'
  · rw [if_neg e1]
    obtain rfl : m = 1 := by omega
    refine descPart_ok (by omega) (b3.up (by omega) (by omega)) (Fal.step (n := n) (y := k (at' p 0)) (by omega) (fun i j a b => by omega) (fun x hx => ?_) b5')
    obtain rfl : x = 0 := by omega
    exact Int.le_refl _
theorem place_ok {n m : Nat} {k : Nat → Int} {p : Array Nat} (hm : m < n) (A : Ar n m p) (U : Up k m p) : ∀ (f l r : Nat), l ≤ r → r ≤ m → r - l ≤ f →
    (∀ i, i < l → k (at' p i) ≤ k (at' p m)) → (∀ i, r ≤ i → i < m → k (at' p m) < k (at' p i)) →
    kOk n k (fun l' => l' ≤ m ∧ (∀ i, i < l' → k (at' p i) ≤ k (at' p m)) ∧ ∀ i, l' ≤ i → i < m → k (at' p m) < k (at' p i)) (kas_place p m f l r)
  | 0, l, r, h1, h2, h3, a, b => ⟨by omega, a, fun i x y => b i (by omega) y⟩
  | f + 1, l, r, h1, h2, h3, a, b => by
    unfold kas_place
    by_cases e : l ≥ r
    · rw [if_pos e]
      exact ⟨by omega, a, fun i x y => b i (by omega) y⟩
    rw [if_neg e, getD_at, getD_at]
    refine kOk_if (A.lt hm) (A.lt (by omega)) (fun c => ?_) fun c => ?_
    · refine place_ok hm A U f l ((l + r) / 2) (by omega) (by omega) (by omega) a fun i x y => ?_
      by_cases e2 : i = (l + r) / 2
      · rw [e2]; exact c
      · have := U ((l + r) / 2) i (by omega) y; unfold Rk at this; omega
    · refine place_ok hm A U f ((l + r) / 2 + 1) r (by omega) (by omega) (by omega) (fun i x => ?_) b
      by_cases e2 : i = (l + r) / 2
      · rw [e2]; omega
      · have := U i ((l + r) / 2) (by omega) (by omega); unfold Rk at this; omega
theorem at_bubble {p : Array Nat} {m d : Nat} (hm : m < p.size) (hd : d ≤ m) (x : Nat) : at' (bubble p m d) x = if x = m - d then at' p m else if m - d < x ∧ x ≤ m then at' p (x - 1) else at' p x := by
  unfold at'; rw [getElem?_bubble hm d hd]; split
  · rfl
  · split <;> rfl
theorem bin_ok {n : Nat} {k : Nat → Int} : ∀ (f : Nat) (p : Array Nat) (m : Nat), m + f = n → Ar n m p → Up k m p →
    kOk n k (fun p' => Ar n n p' ∧ Up k n p') (kas_bin f p m)
  | 0, p, m, h, A, U => by
    obtain rfl : m = n := by omega
    exact ⟨A, U⟩
  | f + 1, p, m, h, A, U => by
    have hs : m < p.size := by rw [A.sz]; omega
    have em := A.id m (Nat.le_refl _) (by omega)
    refine kOk_bind (kOk_mono (fun l hl => ?_) (place_ok (by omega) A U m 0 m (by omega) (Nat.le_refl _) (by omega) (fun i x => by omega) (fun i x y => by omega)))
    obtain ⟨c1, c2, c3⟩ := hl
    have eb : ∀ x, at' (bubble p m (m - l)) x = if x = l then at' p m else if l < x ∧ x ≤ m then at' p (x - 1) else at' p x := fun x => by
      rw [at_bubble hs (by omega), show m - (m - l) = l by omega]
    refine bin_ok f _ (m + 1) (by omega) ⟨by rw [bubble_size, A.sz], by omega, fun i a b => ?_, fun i a => ?_, (bubble_perm _ _ _).trans A.pm⟩ fun i j hij hj => ?_
    · rw [eb, if_neg (by omega), if_neg (by omega)]; exact A.id i (by omega) b
    · rw [eb]
      split
      · omega
      · split
        · have := A.lo (i - 1) (by omega); omega
        · have := A.lo i (by omega); omega
    · rw [eb, eb]
      have hlow : ∀ x, x < m → at' p x < at' p m := fun x hx => by rw [em]; exact A.lo x hx
      by_cases e1 : i = l
      · rw [if_pos e1, if_neg (by omega), if_pos (by omega)]
        exact Or.inl (c3 (j - 1) (by omega) (by omega))
      · rw [if_neg e1]
        by_cases e2 : l < i ∧ i ≤ m
        · rw [if_pos e2, if_neg (by omega), if_pos (by omega)]
          exact U _ _ (by omega) (by omega)
        · rw [if_neg e2]
          by_cases e3 : j = l
          · rw [if_pos e3]
            have a := c2 i (by omega)
            have b := hlow i (by omega)
            unfold Rk; omega
          · rw [if_neg e3]
            by_cases e4 : l < j ∧ j ≤ m
            · rw [if_pos e4]; exact U _ _ (by omega) (by omega)
            · rw [if_neg e4]; exact U _ _ (by omega) (by omega)
theorem Ar.all {n : Nat} : Ar n 0 (List.toArray (List.range n)) := by
  refine ⟨by simp, Nat.zero_le _, fun i _ h => ?_, fun i h => by omega, Array.Perm.refl _⟩
  unfold at'
  simp [h]
theorem sort_ok {n : Nat} (hn : 1 ≤ n) (k : Nat → Int) : kOk n k (fun p => p.toList.Perm (List.range n) ∧ p.toList.Pairwise (Rk k)) (kas_sort n) := by
  have fin : ∀ p : Array Nat, Ar n n p → Up k n p → p.toList.Perm (List.range n) ∧ p.toList.Pairwise (Rk k) := fun p A U => by
    refine ⟨by have := A.pm; rw [Array.perm_iff_toList_perm] at this; simpa using this, ?_⟩
    rw [List.pairwise_iff_getElem]
    intro i j hi hj hij
    have hj' : j < n := by rw [← A.sz]; simpa using hj
    have := U i j hij hj'
    unfold at' at this
    have hi2 : i < p.size := by rw [A.sz]; omega
    have hj2 : j < p.size := by rw [A.sz]; omega
    simpa [hi2, hj2] using this
  refine kOk_bind (kOk_mono (fun r h => ?_) (count_ok hn (Ar.all.up (by omega) hn)))
  obtain ⟨b1, b2, b3, b4⟩ := h
  by_cases e : r.1 < n
  · rw [if_pos e]
    have hm : max r.1 1 = r.1 := by omega
    rw [hm]
    exact kOk_mono (fun p h => fin p h.1 h.2) (bin_ok (n - r.1) r.2 r.1 (by omega) b3 b4)
  · rw [if_neg e]
    have e' : r.1 = n := by omega
    rw [e'] at b3 b4
    exact fin r.2 b3 b4
end L2
set_option Elab.async false
set_option linter.all false
set_option maxRecDepth 100000
namespace L2
open PySem PySem.Spec PyProof.Rows PySem.W
theorem strsAre_of {ss : List Str} : ∀ {us : List Value}, Vals (ss.map V.str) us → StrsAre us ss := by
  induction ss with
  | nil => intro us r; rw [List.map_nil] at r; cases r; exact .nil
  | cons n ns ih =>
    intro us r
    rw [List.map_cons] at r
    cases r with
    | cons r1 r2 =>
      obtain ⟨t, rfl⟩ := r1
      exact .cons _ _ (ih r2)
section
variable {X : Cx}
theorem call_sum (hc : X.calm = true) : CallR X (.builtin "sum") (fun xs H Q => ∃ (a : Addr) (ns : List Int), xs = [.ref a] ∧ SqL X.K H a (ns.map V.int) ∧ Q (.int ns.sum) H) := by
  intro pins s σ H xs us Q I r h
  obtain ⟨a, ns, rfl, hq, q⟩ := h
  obtain ⟨u, rfl, rx⟩ := vals1 r
  cases rx
  obtain ⟨its, r', pl, hz⟩ := I.list hq
  have hi : IntsAre its.toArray.toList ns := intsAre_of r'
  obtain ⟨xs, hx⟩ := hi.allInts.items
  have hl' : s.heap.IsList a (intItems xs) := hx ▸ pl.isList
  refine sum_intListG (I.ok.hd hc) hl' fun h' tk t' hk => ?_
  have e1 : ns = xs.toList.map (·.1) := by
    rw [← nums_intItems, ← hx]
    exact (show numsOf its.toArray.toList = ns from hi.numsOf).symm
  have e2 : preSum (numAt xs) xs.size = ns.sum := by
    rw [preSum_eq, List.take_of_length_le (by simp), e1]
  rw [e2]
  exact ⟨.int ns.sum, H, I.kept hk, ⟨_, rfl⟩, q⟩
def StrOf (x : V) (z : Str) : Prop := (∃ i : Int, x = .int i ∧ i.natAbs.log2 < 1920 ∧ z = toString i) ∨ x = .str z
theorem call_strV : CallR X (.type "str") (fun xs H Q => ∃ x z, xs = [x] ∧ StrOf x z ∧ Q (.str z) H) := by
  intro pins s σ H xs us Q I r h
  obtain ⟨x, z, rfl, h, q⟩ := h
  rcases h with ⟨i, rfl, hi, rfl⟩ | rfl
  · exact call_str_int pins s σ H _ us Q I r ⟨i, rfl, hi, q⟩
  · obtain ⟨u, rfl, t, rfl⟩ := vals1 r
    exact PySem.P.str_of_str ⟨.str z, H, I, ⟨_, rfl⟩, q⟩
def rJoin (K : PySem.W.Frag) : V → List V → Hp → VK → Prop := fun x vs H Q => ∃ z l ys, x = .str z ∧ vs = [.ref l] ∧ SqL K H l (ys.map V.str) ∧ (ys.map (·.length)).sum + ys.length * z.length ≤ 16777216 ∧ Q (.str (Str.join z ys)) H
theorem mt_join : MtM X "str.join" (rJoin X.K) := by
  intro pins s σ H x vs v us Q I rx rv h
  obtain ⟨z, l, ys, rfl, rfl, hq, hz, q⟩ := h
  obtain ⟨t, rfl⟩ := rx
  obtain ⟨u, rfl, ru⟩ := rv.one
  cases ru
  obtain ⟨its, r, pl, hsz⟩ := I.list hq
  refine join_list (items := its.toArray) pl.isList (strsAre_of r) hz fun t' k => ?_
  have e : Txt.join z ys = Str.join z ys := StrLaws.glued_eq_join _ _
  rw [e]
  exact ⟨.str _, H, I.tok _, ⟨_, rfl⟩, q⟩
def eqL (xs ys : List V) : Bool := decide (xs.length = ys.length) && (List.range xs.length).all fun j => eqV (xs.getD j .non) (ys.getD j .non)
def rEqFlat (K : PySem.W.Frag) : R2 := fun x y H Q => ∃ a b xs ys, x = .ref a ∧ y = .ref b ∧ SqL K H a xs ∧ SqL K H b ys ∧ xs.all flatV = true ∧ ys.all flatV = true ∧ Q (.bl (eqL xs ys)) H
theorem op_eqFlat (hu1 : X.A.units + 1 < cLine) : OpR X (compareOp .Eq) (rEqFlat X.K) := by
  intro pins s σ H x y v u Q I rx ry h
  have hu : X.A.units < cLine := by omega
  obtain ⟨a, b, xs, ys, rfl, rfl, ha, hb, fx, fy, q⟩ := h
  cases rx
  cases ry
  obtain ⟨its, r, pl, hz⟩ := I.list ha
  obtain ⟨its2, r2, pl2, _⟩ := I.list hb
  have l1 := r.length
  have l2 := r2.length
  by_cases hl : xs.length = ys.length
  · refine SeqAt.eq_listAt (e := fun j => eqV (xs.getD j .non) (ys.getD j .non)) pl.isList pl2.isList (by rw [List.size_toArray, List.size_toArray]; omega) hu (fun j h1 h2 => ?_) ?_
    · have hx : j < xs.length := by rw [List.size_toArray] at h1; omega
      have hy : j < ys.length := by omega
      have gx : xs[j]? = some xs[j] := List.getElem?_eq_getElem hx
      have gy : ys[j]? = some ys[j] := List.getElem?_eq_getElem hy
      obtain ⟨w1, e1, rw1⟩ := r.get gx
      obtain ⟨w2, e2, rw2⟩ := r2.get gy
      have hh1 : its.toArray[j] = w1 := by rw [List.getElem_toArray]; exact (List.getElem?_eq_some_iff.mp e1).2
      have hh2 : its2.toArray[j] = w2 := by rw [List.getElem_toArray]; exact (List.getElem?_eq_some_iff.mp e2).2
      rw [hh1, hh2, List.getD_eq_getElem?_getD, List.getD_eq_getElem?_getD, gx, gy]
      exact eqAt_V rw1 rw2 (List.all_eq_true.mp fx _ (List.mem_of_getElem? gx)) (List.all_eq_true.mp fy _ (List.mem_of_getElem? gy))
    · refine ⟨.bl (eqL xs ys), H, I, ?_, q⟩
      show Value.bool _ = Value.bool _
      rw [eqL, decide_eq_true hl, Bool.true_and, List.size_toArray, ← l1]
  · refine SeqAt.eq_list_lengthsAt pl.isList pl2.isList ?_ hu ⟨.bl (eqL xs ys), H, I, ?_, q⟩
    · rw [List.size_toArray, List.size_toArray, bne_iff_ne, ← l1, ← l2]; exact hl
    · show Value.bool false = Value.bool _
      rw [eqL, decide_eq_false hl, Bool.false_and]
end
theorem eqL_strs {ss tt : List Str} : eqL (ss.map V.str) (tt.map V.str) = decide (ss = tt) := by
  unfold eqL
  rw [List.length_map, List.length_map]
  by_cases e : ss = tt
  · subst e
    rw [decide_eq_true rfl, decide_eq_true rfl, Bool.true_and, List.all_eq_true]
    intro j hj
    rw [List.mem_range] at hj
    rw [List.getD_eq_getElem?_getD, List.getElem?_map, List.getElem?_eq_getElem hj]
    show (ss[j] == ss[j]) = true
    exact beq_self_eq_true _
  · rw [decide_eq_false e]
    by_cases hl : ss.length = tt.length
    · rw [decide_eq_true hl, Bool.true_and, Bool.eq_false_iff]
      intro h
      rw [List.all_eq_true] at h
      refine e (List.ext_getElem hl fun j h1 h2 => ?_)
      have := h j (List.mem_range.mpr h1)
      rw [List.getD_eq_getElem?_getD, List.getElem?_map, List.getElem?_eq_getElem h1, List.getD_eq_getElem?_getD, List.getElem?_map, List.getElem?_eq_getElem h2] at this
      have h3 : (ss[j] == tt[j]) = true := this
      exact eq_of_beq h3
    · rw [decide_eq_false hl, Bool.false_and]
theorem comp_tup {K : PySem.W.Frag} {a : Addr} {xs : List V} {σ : St} {ix : List Nat} {tc : TT} {te : TE} {Q : List V → Hp → Prop} {H : Hp} (Pv : Nat → List V → Hp → Prop) (h0 : Pv 0 [] H) (hl : ∀ i ys H, i ≤ xs.length → Pv i ys H → SqT K H a xs ∧ ys.length < sizeLine)
    (hs : ∀ (i : Nat) x ys H, xs[i]? = some x → Pv i ys H → tc (sub σ ix (some x)) H fun b H2 => if b = true then te (sub σ ix (some x)) H2 fun y H3 => Pv (i + 1) (ys ++ [y]) H3 else Pv (i + 1) ys H2) (hd : ∀ ys H, Pv xs.length ys H → Q ys H) : CompOk (Itt K a) σ ix tc te Q H := by
  refine ⟨fun i m ys H => m = xs.length - i ∧ i ≤ xs.length ∧ Pv i ys H, ⟨_, rfl, Nat.zero_le _, h0⟩, ?_⟩
  rintro i m ys H ⟨rfl, hi, p⟩
  obtain ⟨q, hz⟩ := hl i ys H hi p
  refine ⟨hz, ?_⟩
  by_cases hlt : i < xs.length
  · refine .inr ⟨⟨xs, xs[i], q, by simp [hlt]⟩, fun y H3 => Pv (i + 1) (ys ++ [y]) H3, fun H2 => Pv (i + 1) ys H2, fun y H3 z => ⟨xs.length - (i + 1), by omega, rfl, hlt, z⟩, fun H2 z => ⟨xs.length - (i + 1), by omega, rfl, hlt, z⟩, fun x H' y => ?_⟩
    obtain ⟨e, y⟩ := y
    subst e
    exact hs i x ys _ (y xs q) p
  · have e : i = xs.length := by omega
    subst e
    exact .inl ⟨⟨xs, q, Nat.le_refl _⟩, hd ys H p⟩
theorem comp_tupN {K : PySem.W.Frag} {a : Addr} {xs : List V} {σ : St} {ix : List Nat} {te : TE} {Q : List V → Hp → Prop} {H : Hp} (Pv : Nat → List V → Hp → Prop) (h0 : Pv 0 [] H) (hl : ∀ i ys H, i ≤ xs.length → Pv i ys H → SqT K H a xs ∧ ys.length < sizeLine)
    (hs : ∀ (i : Nat) x ys H, xs[i]? = some x → Pv i ys H → te (sub σ ix (some x)) H fun y H3 => Pv (i + 1) (ys ++ [y]) H3) (hd : ∀ ys H, Pv xs.length ys H → Q ys H) : CompOk (Itt K a) σ ix tTrue te Q H :=
  comp_tup Pv h0 hl (fun i x ys H e p => iteT (A := te (sub σ ix (some x)) H fun y H3 => Pv (i + 1) (ys ++ [y]) H3) (B := Pv (i + 1) ys H) (hs i x ys H e p)) hd
theorem countP_lt {p q : Nat → Bool} : ∀ {l : List Nat}, (∀ x ∈ l, p x = true → q x = true) → (∃ x ∈ l, q x = true ∧ p x = false) → l.countP p < l.countP q
  | [], _, ⟨x, hx, _⟩ => by cases hx
  | y :: l, h, ⟨x, hx, h1, h2⟩ => by
    have hle : l.countP p ≤ l.countP q := List.countP_mono_left fun z hz => h z (List.mem_cons_of_mem _ hz)
    rw [List.countP_cons, List.countP_cons]
    rcases List.mem_cons.mp hx with rfl | hx
    · rw [h1, h2]; simp; omega
    · have ih := countP_lt (fun z hz => h z (List.mem_cons_of_mem _ hz)) ⟨x, hx, h1, h2⟩
      have hy := h y List.mem_cons_self
      cases hp : p y <;> cases hq : q y <;> simp_all <;> omega
def rank (n : Nat) (lt : Nat → Nat → Bool) (i : Nat) : Int := (((List.range n).countP fun m => lt m i : Nat) : Int)
theorem rank_eq {n : Nat} {lt : Nat → Nat → Bool} (ir : ∀ i, lt i i = false) (tr : ∀ i j k, lt i j = true → lt j k = true → lt i k = true) (nt : ∀ i j k, lt i k = true → lt i j = true ∨ lt j k = true) {i j : Nat} (hi : i < n) (hj : j < n) :
    decide (rank n lt i < rank n lt j) = lt i j := by
  cases h : lt i j with
  | true =>
    refine decide_eq_true ?_
    have : (List.range n).countP (fun m => lt m i) < (List.range n).countP (fun m => lt m j) := countP_lt (fun x _ e => tr x i j e h) ⟨i, List.mem_range.mpr hi, h, ir i⟩
    unfold rank; omega
  | false =>
    refine decide_eq_false ?_
    have : (List.range n).countP (fun m => lt m j) ≤ (List.range n).countP (fun m => lt m i) := List.countP_mono_left fun x _ e => by
      rcases nt x i j e with h' | h'
      · exact h'
      · rw [h] at h'; cases h'
    unfold rank; omega
theorem list_sort_any {prog : Program} {w : World} {A : Around} {E : Value → Shared → Prop} {s : Shared} {a : Addr} {vs : List Value} {n : Nat} {P : PySem.Fin → Shared → Prop} {κ : SortKind} {k : Nat → Int} (ho : s.heap.get? a = some (seqObj "list" vs.toArray n)) (h64 : vs.length < 64)
    (hkk : 2 ≤ vs.length → ∀ (h' : Heap) (Q : SortKind → Shared → Prop), (∀ b o, b ≠ a → s.heap.get? b = some o → h'.get? b = some o) → Q κ { s with heap := h' } → wpAny (model prog w) A (keyKind' vs.toArray) Q E { s with heap := h' })
    (hcm : ∀ (h' : Heap), (∀ b o, b ≠ a → s.heap.get? b = some o → h'.get? b = some o) → ∀ i j (C : Bool → Shared → Prop), i < vs.length → j < vs.length → C (decide (k i < k j)) { s with heap := h' } →
      wpAny (model prog w) A (keyLt' κ (vs.getD i Value.none) (vs.getD j Value.none)) C (fun _ _ => False) { s with heap := h' })
    (h : ∀ is : List Nat, is.Perm (List.range vs.length) → is.Pairwise (Rk k) → P (.done (.ret .none)) { s with heap := sortedHeap s.heap a vs (is.map fun i => vs.getD i Value.none).toArray }) :
    wpAny (model prog w) A (Builtin.«list.sort» ⟨[.ref a], []⟩) P E s := by
  rw [list_sort_plain]
  have ha : a < s.heap.objs.size := Heap.lt_size ho
  refine wpAny_bind (listItems_at ho rfl ?_)
  refine wpAny_bind (listUpdate_at ho rfl ?_)
  obtain ⟨e1, ho1⟩ : ∃ e1, (s.heap.update a (Obj.mapSeq fun _ => #[])).get? a = some (seqObj "list" #[] e1) := ⟨_, get?_update_seq ho (fun _ => #[])⟩
  refine wpAny_bind (seqEpoch_at ho1 rfl ?_)
  refine wpAny_bind (wpAny_newTuple ?_)
  refine wpAny_bind (wpAny_newList ?_)
  refine wpAny_holding ?_
  have ho6 : (((s.heap.update a (Obj.mapSeq fun _ => #[])).push (seqObj "tuple" vs.toArray 0)).push (seqObj "list" #[] 0)).get? a = some (seqObj "list" #[] e1) := by
    rw [Heap.get?_push_ne _ _ _ (by rw [size_push', Heap.size_update]; exact Nat.ne_of_lt (Nat.lt_succ_of_lt ha)), Heap.get?_push_ne _ _ _ (by rw [Heap.size_update]; exact Nat.ne_of_lt ha)]
    exact ho1
  have kp : ∀ b o, b ≠ a → s.heap.get? b = some o → (((s.heap.update a (Obj.mapSeq fun _ => #[])).push (seqObj "tuple" vs.toArray 0)).push (seqObj "list" #[] 0)).get? b = some o := fun b o hb e => by
    refine Heap.get?_push_of_some _ (Heap.get?_push_of_some _ ?_)
    rw [Heap.get?_update_ne _ _ _ _ hb]
    exact e
  show wpAny (model prog w) A _ P E { s with heap := ((s.heap.update a (Obj.mapSeq fun _ => #[])).push (seqObj "tuple" vs.toArray 0)).push (seqObj "list" #[] 0) }
  dsimp only
  have hsz : vs.toArray.size = vs.length := by simp
  by_cases h2 : vs.toArray.size < 2
  · rw [if_pos h2, if_pos h2]
    refine wpAny_bind (wpAny_pure ?_)
    rw [StateT.run_pure]
    refine wpAny_bind (wpAny_pure ?_)
    dsimp only
    refine wpAny_bind (seqEpoch_at ho6 rfl ?_)
    refine wpAny_bind (listUpdate_at ho6 rfl ?_ (hsz2 := by rw [Array.size_map]; show (pairsOf vs).size ≤ _; rw [pairsOf_size, sizeLine_eq]; omega))
    simp only [bne_self_eq_false, Bool.false_eq_true, if_false]
    have hs' : vs.length < 2 := by omega
    have e0 : (arrOf (SortSt.mk' general' (vs.toArray.zip vs.toArray) #[] 7 none)).map (·.2) = ((List.range vs.length).map fun i => vs.getD i Value.none).toArray := by
      have e9 : arrOf (SortSt.mk' general' (vs.toArray.zip vs.toArray) #[] 7 none) = vs.toArray.zip vs.toArray := rfl
      rw [e9]
      match vs, hs' with
      | [], _ => simp
      | [x], _ => simp
    refine wpAny_pure ?_
    have := h (List.range vs.length) (List.Perm.refl _) (by
      match vs, hs' with
      | [], _ => exact List.Pairwise.nil
      | [x], _ => exact List.pairwise_singleton _ _)
    rw [← e0] at this
    exact this
  · rw [if_neg h2, if_neg h2]
    refine wpAny_bind (hkk (by omega) _ _ kp ?_)
    refine wpAny_bind (wpAny_mono (kat_run (Q := fun st' s' => ∃ p : Array Nat, (arrOf st').map (·.2) = (p.toList.map fun i => vs.getD i Value.none).toArray ∧ failedOf st' = none ∧ s' = { s with heap := ((s.heap.update a (Obj.mapSeq fun _ => #[])).push (seqObj "tuple" vs.toArray 0)).push (seqObj "list" #[] 0) } ∧ p.toList.Perm (List.range vs.length) ∧ p.toList.Pairwise (Rk k)) (vs := vs) (ks := vs) (G := fun p s' => s' = { s with heap := ((s.heap.update a (Obj.mapSeq fun _ => #[])).push (seqObj "tuple" vs.toArray 0)).push (seqObj "list" #[] 0) } ∧ p.toList.Perm (List.range vs.length) ∧ p.toList.Pairwise (Rk k)) rfl (by omega) h64 (fun p st' s' h1 h3 h4 h5 => ⟨p, kat_snds rfl h3, h4, h5⟩)
      (kOk_wp (n := vs.length) (k := k) (fun i j C hi hj hC => hcm _ kp i j C hi hj hC) (kOk_mono (fun p hp => ⟨rfl, hp⟩) (sort_ok (by omega) k)))) ?_ fun _ _ e => e)
    rintro ⟨⟨⟩, st'⟩ s' ⟨p, e0, h4, rfl, pm, pw⟩
    dsimp only
    refine wpAny_bind (seqEpoch_at ho6 rfl ?_)
    refine wpAny_bind (listUpdate_at ho6 rfl ?_ (hsz2 := by rw [e0, List.size_toArray, List.length_map, pm.length_eq, List.length_range, sizeLine_eq]; omega))
    rw [h4]
    simp only [bne_self_eq_false, Bool.false_eq_true, if_false]
    have := h p.toList pm pw
    rw [← e0] at this
    exact wpAny_pure this
def lexP (a b : Int × Int) : Bool := decide (a.1 < b.1 ∨ (a.1 = b.1 ∧ a.2 < b.2))
theorem lt_pair {prog : Program} {w : World} {A : Around} {s : Shared} {x y : Addr} {a b c d : Int} {t u v z : Tok} {C : Bool → Shared → Prop} {E : Value → Shared → Prop} (hx : IsTup s.heap x #[.int a t, .int b u]) (hy : IsTup s.heap y #[.int c v, .int d z]) (h : C (lexP (a, b) (c, d)) s) :
    wpAny (model prog w) A (keyLt' (tuples' true) (.ref x) (.ref y)) C E s := by
  obtain ⟨ox, hx1, _, n1, hx2⟩ := hx
  obtain ⟨oy, hy1, _, n2, hy2⟩ := hy
  refine kat_lt hx1 hx2 hy1 hy2 ?_
  refine kat_cons (SeqAt.EqAt.int_int a t c v prog w _ _ (kat_go (fun e => kat_yes ?_) (fun e => kat_no ?_)))
  · have e1 : a = c := by simpa using e
    refine kat_cons (SeqAt.EqAt.int_int b u d z prog w _ _ (kat_go (fun e => kat_yes (kat_nil ?_)) (fun e => kat_no ?_)))
    · have e2 : b = d := by simpa using e
      have : lexP (a, b) (c, d) = false := decide_eq_false (by simp only; omega)
      rw [this] at h
      simpa using h
    · have : lexP (a, b) (c, d) = decide (b < d) := by
        unfold lexP
        exact decide_eq_decide.mpr (by simp only; omega)
      rw [this] at h
      refine kat_one _ _ ?_
      exact PyProof.Rows.lt_int (Q := PySem.W.BoolBack C) h
  · have e1 : ¬ a = c := by simpa using e
    have : lexP (a, b) (c, d) = decide (a < c) := by
      unfold lexP
      exact decide_eq_decide.mpr (by simp only; omega)
    rw [this] at h
    exact oneLt_int h
theorem lexP_irr (a : Int × Int) : lexP a a = false := decide_eq_false (by omega)
theorem lexP_tr {a b c : Int × Int} (h : lexP a b = true) (h' : lexP b c = true) : lexP a c = true := by
  have h := of_decide_eq_true h
  have h' := of_decide_eq_true h'
  exact decide_eq_true (by omega)
theorem lexP_nt {a b c : Int × Int} (h : lexP a c = true) : lexP a b = true ∨ lexP b c = true := by
  have h := of_decide_eq_true h
  by_cases e : lexP a b = true
  · exact .inl e
  · refine .inr (decide_eq_true ?_)
    have e' : ¬ (a.1 < b.1 ∨ (a.1 = b.1 ∧ a.2 < b.2)) := fun z => e (decide_eq_true z)
    omega
abbrev PQ := Addr × Int × Int
def pq0 : PQ := (0, 0, 0)
section
variable {X : Cx}
theorem tups_of {H : Hp} {s : Shared} {pins : List (Addr × Obj)} {σ : St} (I : Inv X pins σ H s) {h' : Heap} (kp : ∀ b o xs n, s.heap.get? b = some o → o.data = .seq xs n → o.cls = .type "tuple" → h'.get? b = some o) : ∀ (ps : List PQ) (us : List Value), (∀ p ∈ ps, H p.1 = some (.tup [.int p.2.1, .int p.2.2])) → Vals (ps.map fun p => V.ref p.1) us →
    ∃ fs : List Value, KatTups h' us fs ∧ fs.length = ps.length ∧ ∀ v ∈ fs, ∃ a t, v = Value.int a t
  | [], us, _, r => by cases r; exact ⟨[], .nil, rfl, fun v h => by cases h⟩
  | p :: ps, us, hp, r => by
    rw [List.map_cons] at r
    cases r with
    | cons r1 r2 =>
      cases r1
      obtain ⟨fs, k, l, hi⟩ := tups_of I kp ps _ (fun q hq => hp q (List.mem_cons_of_mem _ hq)) r2
      obtain ⟨its, r', pl, _⟩ := I.tuple (SqT.of (hp p List.mem_cons_self))
      obtain ⟨u, w', rfl, ⟨t, rfl⟩, _⟩ := vals2 r'
      obtain ⟨o, ho, hcl, n, hd⟩ := pl
      refine ⟨.int p.2.1 t :: fs, KatTups.cons (kp _ _ _ _ ho hd hcl) hcl hd rfl k, by rw [List.length_cons, l, List.length_cons], fun v hv => ?_⟩
      rcases List.mem_cons.mp hv with rfl | hv
      · exact ⟨_, _, rfl⟩
      · exact hi v hv
theorem call_sortedP (hc : X.calm = true) : CallR X (.builtin "sorted") (fun xs H Q => ∃ (l : Addr) (ps : List PQ), xs = [.ref l] ∧ SqL X.K H l (ps.map fun p => V.ref p.1) ∧ (∀ p ∈ ps, H p.1 = some (.tup [.int p.2.1, .int p.2.2])) ∧ ps.length < 64 ∧
    ∀ (r : Addr) (is : List Nat), H r = none → is.Perm (List.range ps.length) → is.Pairwise (fun i j => lexP (ps.getD j pq0).2 (ps.getD i pq0).2 = false) → Q (.ref r) (upd H r (.lst (is.map fun i => V.ref (ps.getD i pq0).1)))) := by
  intro pins s σ H xs us Q I r h
  obtain ⟨l, ps, rfl, hq, hp, h64, q⟩ := h
  obtain ⟨u, rfl, rx⟩ := vals1 r
  cases rx
  obtain ⟨vs, rv, pl, hz⟩ := I.list hq
  have hlen : vs.length = ps.length := by
    have := rv.length
    rw [List.length_map] at this
    omega
  refine Calls.call_function_entry kind_sorted plain_sorted entry_sorted (args_sorted1 _) ?_
  unfold Builtin.«sorted»
  refine wpAny_bind (m := checkCount "sorted" 1 1 _) (wpAny_pure ?_)
  refine wpAny_bind (collect_list pl.isList ?_ (by rw [sizeLine_eq]; omega))
  refine wpAny_bind (wpAny_newList ?_ (by rw [sizeLine_eq]; omega))
  obtain ⟨h1, eh1⟩ : ∃ h1, (s.heap.push (seqObj "list" #[] 0)).update s.heap.objs.size (Obj.mapSeq (· ++ vs.toArray)) = h1 := ⟨_, rfl⟩
  have kp1 : ∀ b o, s.heap.get? b = some o → h1.get? b = some o := fun b o e => by
    have hb := Heap.lt_size e
    rw [← eh1, Heap.get?_update_ne _ _ _ _ (Nat.ne_of_lt hb)]
    exact Heap.get?_push_of_some _ e
  rw [eh1]
  have I1 : Inv X pins σ H { s with heap := h1 } := I.kept (t' := s.toks) kp1
  have hoL : (h1.push (seqObj "list" vs.toArray 0)).get? h1.objs.size = some (seqObj "list" vs.toArray 0) := Heap.get?_push_size _ rfl
  have kp2 : ∀ b o, s.heap.get? b = some o → b ≠ h1.objs.size ∧ (h1.push (seqObj "list" vs.toArray 0)).get? b = some o := fun b o e => ⟨Nat.ne_of_lt (Heap.lt_size (kp1 b o e)), Heap.get?_push_of_some _ (kp1 b o e)⟩
  obtain ⟨lt, hlt⟩ : ∃ lt : Nat → Nat → Bool, lt = fun i j => lexP (ps.getD i pq0).2 (ps.getD j pq0).2 := ⟨_, rfl⟩
  have rk : ∀ {i j : Nat}, i < ps.length → j < ps.length → decide (rank ps.length lt i < rank ps.length lt j) = lt i j := fun hi hj =>
    rank_eq (fun i => by rw [hlt]; exact lexP_irr _) (fun i j k a b => by rw [hlt] at *; exact lexP_tr a b) (fun i j k a => by rw [hlt] at *; exact lexP_nt a) hi hj
  refine wpAny_bind (wpAny_holding (wpAny_call_entry slot_list_sort ⟨_, hoL, rfl⟩ entry_list_sort (list_sort_any (κ := tuples' true) (k := rank ps.length lt) hoL (by omega) (fun h2 h' Q' kp hQ => ?kk) (fun h' kp i j C hi hj hC => ?cm) fun is pm pw => ⟨_, rfl, ?fin⟩) (args_list_sort _)))
  case kk =>
    obtain ⟨fs, k, lf, hi⟩ := tups_of I (h' := h') (fun b o xs n e _ _ => kp b o (kp2 b o e).1 (kp2 b o e).2) ps vs hp rv
    refine kat_kind (T := .type "int") k (by omega) (fun v hv => ?_) (by decide) hQ
    obtain ⟨a, t, rfl⟩ := hi v hv
    exact .now
  case cm =>
    have get : ∀ m, m < ps.length → ∃ (t u : Tok), vs.getD m Value.none = .ref (ps.getD m pq0).1 ∧ IsTup h' (ps.getD m pq0).1 #[.int (ps.getD m pq0).2.1 t, .int (ps.getD m pq0).2.2 u] := fun m hm => by
      have g : (ps.map fun p => V.ref p.1)[m]? = some (V.ref ps[m].1) := by rw [List.getElem?_map, List.getElem?_eq_getElem hm]; rfl
      have e0 : ps.getD m pq0 = ps[m] := by rw [List.getD_eq_getElem?_getD, List.getElem?_eq_getElem hm]; rfl
      obtain ⟨w, ew, rw'⟩ := rv.get g
      cases rw'
      obtain ⟨its, r', pl, _⟩ := I.tuple (SqT.of (hp _ (List.getElem_mem hm)))
      obtain ⟨u, w', rfl, ⟨t, rfl⟩, ⟨t', rfl⟩⟩ := vals2 r'
      obtain ⟨o, ho, hcl, n, hd⟩ := pl
      refine ⟨t, t', ?_, ?_⟩
      · rw [List.getD_eq_getElem?_getD, ew, e0]; rfl
      · rw [e0]
        exact ⟨o, kp _ _ (kp2 _ _ ho).1 (kp2 _ _ ho).2, hcl, n, hd⟩
    obtain ⟨t, u, e1, t1⟩ := get i (by omega)
    obtain ⟨t', u', e2, t2⟩ := get j (by omega)
    rw [e1, e2]
    rw [rk (by omega) (by omega), hlt] at hC
    exact lt_pair t1 t2 hC
  case fin =>
    refine wpAny_pure ⟨_, rfl, ?_⟩
    obtain ⟨e, he⟩ := sortedHeap_at (out := (is.map fun i => vs.getD i Value.none).toArray) hoL
    rw [hlen] at pm
    have pw' : is.Pairwise (fun i j => lexP (ps.getD j pq0).2 (ps.getD i pq0).2 = false) := by
      refine (List.pairwise_iff_getElem.mpr fun a b ha hb hab => ?_)
      have h0 := List.pairwise_iff_getElem.mp pw a b ha hb hab
      have ma : is[a] < ps.length := List.mem_range.mp (pm.mem_iff.mp (List.getElem_mem ha))
      have mb : is[b] < ps.length := List.mem_range.mp (pm.mem_iff.mp (List.getElem_mem hb))
      have := rk mb ma
      have e3 : lt is[b] is[a] = lexP (ps.getD is[b] pq0).2 (ps.getD is[a] pq0).2 := by rw [hlt]
      rw [← e3, ← this]
      refine decide_eq_false ?_
      unfold Rk at h0
      omega
    refine ⟨.ref h1.objs.size, upd H h1.objs.size (.lst (is.map fun i => V.ref (ps.getD i pq0).1)), ?_, rfl, q _ is I1.fresh pm pw'⟩
    refine I1.laid (a := h1.objs.size) (t' := s.toks) (fun b o e => ?_) (Nat.le_refl _) ⟨?_, is.map fun i => vs.getD i Value.none, e, ?_, ?_⟩
    · have hb := Heap.lt_size e
      rw [sortedHeap_old (Nat.ne_of_lt hb) (by rw [Heap.size_push]; exact Nat.lt_succ_of_lt hb)]
      exact Heap.get?_push_of_some _ e
    · rw [List.length_map, pm.length_eq, List.length_range]
      exact le_line (by omega)
    · have go : ∀ js : List Nat, (∀ j ∈ js, j < ps.length) → Vals (js.map fun i => V.ref (ps.getD i pq0).1) (js.map fun i => vs.getD i Value.none) := fun js => by
        induction js with
        | nil => intro _; exact .nil
        | cons j js ih =>
          intro hj
          rw [List.map_cons, List.map_cons]
          refine .cons ?_ (ih fun m hm => hj m (List.mem_cons_of_mem _ hm))
          have hm := hj j List.mem_cons_self
          have g : (ps.map fun p => V.ref p.1)[j]? = some (V.ref ps[j].1) := by rw [List.getElem?_map, List.getElem?_eq_getElem hm]; rfl
          obtain ⟨w, ew, rw'⟩ := rv.get g
          rw [List.getD_eq_getElem?_getD, List.getElem?_eq_getElem hm, List.getD_eq_getElem?_getD, ew]
          exact rw'
      exact go is fun j hj => List.mem_range.mp (pm.mem_iff.mp hj)
    · exact he
end
end L2
namespace L2
open PySem
@[elab_as_elim] theorem alloc_rd {motive : Hp → Prop} {H : Hp} {p : Addr} {o : HO} (K : Hp) (e : K = upd H p o) (hp : H p = none) (h : ∀ H', Same H H' → H' p = some o → motive H') : motive K := by
  subst e
  exact h _ (same_new hp o) upd_same
end L2
set_option Elab.async false
set_option linter.all false
set_option maxRecDepth 100000
namespace L2
open PySem PySem.Spec PyProof.Rows
section
variable {X : Cx} {pins : List (Addr × Obj)} {σ : St} {H : Hp} {s : Shared} {a : Addr} {A : Around} {E : Value → Shared → Prop}
end
section
variable {X : Cx} {o e f : Expr} {td ty tx : TE} {apos cpos : Pos}
end
section
variable {X : Cx} {tg : Expr}
end
end L2
namespace L2
open PySem PySem.Spec PyProof.Rows
section
variable {X : Cx}
def rNeNil (K : PySem.W.Frag) : R2 := fun x y H Q => ∃ a b xs, x = .ref a ∧ y = .ref b ∧ SqL K H a xs ∧ SqL K H b [] ∧ Q (.bl (!xs.isEmpty)) H
theorem op_neNil (hu1 : X.A.units + 1 < cLine) : OpR X (compareOp .NotEq) (rNeNil X.K) := by
  intro pins s σ H x y v u Q I rx ry h
  have hu : X.A.units < cLine := by omega
  obtain ⟨a, b, xs, rfl, rfl, ha, hb, q⟩ := h
  cases rx
  cases ry
  obtain ⟨its, r, pl, hz⟩ := I.list ha
  obtain ⟨its2, r2, pl2, _⟩ := I.list hb
  have e2 : its2 = [] := r2.zero
  subst e2
  cases r with
  | nil => exact SeqAt.RcNeAt.lists (e := fun _ => true) pl.isList pl2.isList rfl hu (fun j h1 _ => absurd h1 (by simp)) _ _ _ _ ⟨.bl false, H, I, by simp [RelV], q⟩
  | cons r1 r2 => exact SeqAt.RcNeAt.lists_lengths pl.isList pl2.isList (by simp) hu _ _ _ _ ⟨.bl true, H, I, rfl, q⟩
end
end L2
set_option Elab.async false
set_option linter.all false
set_option maxRecDepth 100000
namespace L2
open PySem PySem.Spec PyProof.Rows
section
variable {P : Program} {w : World} {K : PySem.W.Frag} {mg : Str → Option Value} {base : Heap}
end
section
variable {X : Cx} {pins : List (Addr × Obj)} {σ : St} {H : Hp} {s : Shared}
end
section
variable {X : Cx} {pins : List (Addr × Obj)} {σ : St} {H : Hp} {s : Shared} {A : Around} {E : Value → Shared → Prop}
end
section
variable {X : Cx} {pins : List (Addr × Obj)} {σ : St} {H : Hp} {s : Shared} {A : Around} {scope : Scope} {x : Str} {fr : List Str} {ix : List Nat}
end
section
variable {X : Cx} {pins : List (Addr × Obj)} {σ : St} {H : Hp} {s : Shared}
end
section
variable {X : Cx} {scope : Scope} {x : Str} {fr : List Str} {ix : List Nat} {e body : Expr} {te tb : TE} {params : Arguments} {lp kp p pos : Pos} {T c : Addr} {k : Nat}
end
end L2
namespace L2
open PySem PySem.Spec PyProof.Rows
end L2
set_option Elab.async false
set_option linter.all false
set_option maxRecDepth 100000
namespace L2
open PySem PySem.Spec PyProof.Rows
theorem vals_rev : ∀ {xs : List V} {us : List Value}, Vals xs us → Vals xs.reverse us.reverse
  | _, _, .nil => .nil
  | _, _, .cons r t => by rw [List.reverse_cons, List.reverse_cons]; exact (vals_rev t).append (.cons r .nil)
section
variable {prog : Program} {w : World} {A : Around} {E : Value → Shared → Prop} {s : Shared} {r : Addr}
theorem rev_len_none : typeLookup (.type "list_reverseiterator") "__len__" = pure none := by rw [typeLookup_type, builtinLookup_eq_fast]; kernel_rfl
theorem rev_hint_some : typeLookup (.type "list_reverseiterator") "__length_hint__" = pure (some (.builtin "list_reverseiterator.__length_hint__")) := by rw [typeLookup_type, builtinLookup_eq_fast]; kernel_rfl
theorem rev_hint {Q : Bool → Shared → Prop} (hT : s.TypeIs (.ref r) "list_reverseiterator") (h : Q false s) : wpAny (model prog w) A (Builtin.List.listLengthHint (.ref r)) Q E s := by
  unfold Builtin.List.listLengthHint
  refine wpAny_bind (wpAny_specialOf hT rev_len_none ?_)
  wp_delta
  refine wpAny_ite_split (fun hab => absurd hab (by decide)) (fun _ => ?_)
  refine wpAny_bind (wpAny_specialOf hT rev_hint_some ?_)
  generalize hid : ("list_reverseiterator.__length_hint__" : String) = id0
  wp_delta
  rw [show splitId id0 = some ("list_reverseiterator", "__length_hint__") from by subst hid; decide +kernel]
  subst hid
  refine wpAny_bind (wpAny_isInstance (T := "list_reverseiterator") (b := true) hT (by rw [isSubtype_type]; kernel_rfl) ?_)
  refine wpAny_ite_split (fun hab => absurd hab (by decide)) (fun _ => ?_)
  refine wpAny_ite_split (fun _ => ?_) (fun hab => absurd (by decide +kernel) hab)
  refine wpAny_ite_split (fun hab => absurd hab (by decide +kernel)) (fun _ => ?_)
  exact wpAny_pure h
theorem rev_extend {R : Result → Shared → Prop} {l : Addr} {items : Array Value} (hh : A.handled = none) (hit : s.heap.IsRevIter r l ((items.size : Int) - 1)) (hl : s.heap.IsList l items) (hne : l ≠ r) (S : Addr) (hSr : S ≠ r) (hSd : S ≠ l) (res : Value) (c₀ : Nat) (hS : s.heap.get? S = some { cls := .type "list", data := .seq #[] c₀ })
    (hR : ∀ h' tk acc' c', (∀ b o, b ≠ S → b ≠ r → s.heap.get? b = some o → h'.get? b = some o) → h'.get? S = some { cls := .type "list", dict := none, data := .seq acc' c', slots := #[] } → ItemsOf (fun i v => items[items.size - 1 - i]? = some v) acc' items.size → R (.ok (.ret res)) { s with heap := h', toks := tk }) (hn : items.size ≤ sizeLine) :
    wpAny (model prog w) A.in1 (Builtin.List.listExtendWith (.ref S) (.ref r) res)
      (fun fin s' => match fin with | .done f => R (.ok f) s' | .again c' => c'.quiet = true ∧ codeAny (model prog w) A c' R s') (fun e s' => R (.error e) s') s := by
  have hSf : S ∉ [r, l] := by simp only [List.mem_cons, List.not_mem_nil, or_false, not_or]; exact ⟨hSr, hSd⟩
  have W := Walks.listRev (prog := prog) (w := w) (A := A.in1) hh r l hne items
  unfold Builtin.List.listExtendWith
  refine wpAny_bind (wpAny_typeOf (T := "list_reverseiterator") hit.typeIs ?_)
  have h1 : Builtin.List.listSameRef (.ref S) (.ref r) = false := by simp [Builtin.List.listSameRef, hSr]
  have n1 : (Value.type "list_reverseiterator" == Value.type "list") = false := by decide
  have n2 : (Value.type "list_reverseiterator" == Value.type "tuple") = false := by decide
  simp only [h1, n1, n2, Bool.or_false, Bool.false_eq_true, if_false]
  have e0 : (items.size : Int) - 1 - ((0 : Nat) : Int) = (items.size : Int) - 1 := by omega
  have st : 0 ≤ items.size ∧ s.heap.IsRevIter r l ((items.size : Int) - 1 - ((0 : Nat) : Int)) ∧ s.heap.IsList l items := ⟨Nat.zero_le _, by rw [e0]; exact hit, hl⟩
  have key : ∀ (h : Heap) (c₁ tk : Nat), (0 ≤ items.size ∧ h.IsRevIter r l ((items.size : Int) - 1 - ((0 : Nat) : Int)) ∧ h.IsList l items) → (∀ b o, b ≠ S → s.heap.get? b = some o → h.get? b = some o) →
      h.get? S = some { cls := .type "list", data := .seq #[] c₁ } → codeAny (model prog w) A (.builtin "list.extend.loop" ⟨[.ref S, .ref r, res], []⟩) R { s with heap := h, toks := tk } := by
    intro h c₁ tk hst hk hS₁
    refine codeAny_extend_loopS W.toS hn S hSf res items.size 0 _ #[] c₁ rfl (Nat.zero_le _) hst hS₁ (ItemsOf.nil _) fun s' acc' c' hm hS' hacc => ?_
    rw [Moved.eq_with hm]
    refine hR s'.heap s'.toks acc' c' (fun b o hb hbr e => hm.heap b o (fun hmem => ?_) (hk b o hb e)) hS' hacc
    rcases List.mem_cons.mp hmem with e' | hmem
    · exact hb e'
    · exact hbr (List.mem_singleton.mp hmem)
  refine wpAny_bind (wpAny_pyIter_revIter hit ?_)
  refine wpAny_bind (wpAny_holding (rev_hint hit.typeIs ?_))
  refine wpAny_ite_split (fun _ => ?_) (fun _ => wpAny_pure ⟨plainId_quiet PySem.F.plain_extend_loop _, key _ c₀ _ st (fun b o _ e => e) hS⟩)
  refine wpAny_bind (wpAny_rule ?_)
  refine wpAny_bind ?_
  show wpAny _ _ (updateSeq S (·.push .none) >>= fun _ => updateSeq S (·.pop)) _ _ _
  refine wpAny_bind (wpAny_updateSeq hS rfl ?_)
  have hS₂ := Heap.get?_update_self (Obj.mapSeq (·.push Value.none)) hS rfl
  refine wpAny_updateSeq (hz := by seq_fits) hS₂ rfl ?_
  have hS₃ := Heap.get?_update_self (Obj.mapSeq (·.pop)) hS₂ rfl
  refine wpAny_pure ⟨plainId_quiet PySem.F.plain_extend_loop _, key _ _ _ ?_ (fun b o hb e => ?_) hS₃⟩
  · refine W.frame 0 _ _ st fun b hb o e => ?_
    have hbS : b ≠ S := fun h => hSf (h ▸ hb)
    exact (Heap.get?_update_other _ _ (Ne.symm hbS)).trans ((Heap.get?_update_other _ _ (Ne.symm hbS)).trans e)
  · exact (Heap.get?_update_other _ _ (Ne.symm hb)).trans ((Heap.get?_update_other _ _ (Ne.symm hb)).trans e)
theorem rev_list {Q : Value → Shared → Prop} {l : Addr} {items : Array Value} (hh : A.handled = none) (hit : s.heap.IsRevIter r l ((items.size : Int) - 1)) (hl : s.heap.IsList l items) (hne : l ≠ r) (hn : items.size ≤ sizeLine)
    (hQ : ∀ h' tk acc' c', (∀ b o, b ≠ r → s.heap.get? b = some o → h'.get? b = some o) → h'.get? s.heap.objs.size = some { cls := .type "list", dict := none, data := .seq acc' c', slots := #[] } → ItemsOf (fun i v => items[items.size - 1 - i]? = some v) acc' items.size → Q (.ref s.heap.objs.size) { s with heap := h', toks := tk }) :
    wpAny (model prog w) A (call (.type "list") [.ref r]) Q E s := by
  refine callType_codes (Q₁ := fun obj s₁ => obj = .ref s.heap.objs.size ∧ s₁ = { s with heap := s.heap.push { cls := .type "list", data := .seq #[] } }) PySem.F.called_list (PySem.F.typeCall_list_1 _) PySem.F.entry_list_init
    (code_list_new _ ⟨rfl, rfl⟩) fun obj s₁ h₁ => ?_
  obtain ⟨rfl, rfl⟩ := h₁
  have hS : (s.heap.push { cls := .type "list", data := .seq #[] }).get? s.heap.objs.size = some { cls := .type "list", data := .seq #[] } := Heap.get?_push_size _ rfl
  have lr : r < s.heap.objs.size := let ⟨o, ho, _⟩ := hit; Heap.lt_size ho
  have ll : l < s.heap.objs.size := let ⟨o, ho, _⟩ := hl; Heap.lt_size ho
  refine ⟨⟨_, hS, rfl⟩, PySem.F.args_list_init_2 _ _, ?_⟩
  show wpAny _ _ (do let old ← Builtin.List.listItems (.ref s.heap.objs.size); Builtin.List.listUpdate (.ref s.heap.objs.size) (fun _ => #[]); letGo old.toList.reverse; Builtin.List.listExtendWith (.ref s.heap.objs.size) (.ref r) .none) _ _ _
  refine wpAny_bind ?_
  unfold Builtin.List.listItems
  refine wpAny_bind (wpAny_seqItems hS rfl (wpAny_pure ?_))
  show wpAny _ _ (updateSeq s.heap.objs.size (fun _ => #[]) >>= fun _ => letGo (#[] : Array Value).toList.reverse >>= fun _ => Builtin.List.listExtendWith (.ref s.heap.objs.size) (.ref r) .none) _ _ _
  refine wpAny_bind (wpAny_updateSeq hS rfl ?_)
  have hS₂ := Heap.get?_update_self (Obj.mapSeq (fun _ => (#[] : Array Value))) hS rfl
  have oth : ∀ b o, b ≠ s.heap.objs.size → s.heap.get? b = some o → ((s.heap.push { cls := .type "list", data := .seq #[] }).update s.heap.objs.size (Obj.mapSeq (fun _ => (#[] : Array Value)))).get? b = some o :=
    fun b o hb e => (Heap.get?_update_other _ _ (Ne.symm hb)).trans (Heap.get?_push_of_some _ e)
  refine wpAny_bind (wpAny_letGo ?_)
  refine rev_extend (A := A.in1) hh (hit.at fun o e => oth r o (Nat.ne_of_lt lr) e) (hl.at fun o e => oth l o (Nat.ne_of_lt ll) e) hne _ (Nat.ne_of_gt lr) (Nat.ne_of_gt ll) .none _ hS₂ (fun h' tk acc' c' hk hS' hacc => ?_) hn
  exact ⟨rfl, hQ h' tk acc' c' (fun b o hbr e => hk b o (Nat.ne_of_lt (Heap.lt_size e)) hbr (oth b o (Nat.ne_of_lt (Heap.lt_size e)) e)) hS' hacc⟩
end
section
variable {X : Cx} {e : Expr} {te : TE} {p p' pos pos' : Pos}
def tListRev (K : PySem.W.Frag) (te : TE) : TE := fun σ H Q => te σ H fun x H1 => ∃ l xs, x = .ref l ∧ SqL K H1 l xs ∧ ∀ r, H1 r = none → Q (.ref r) (upd H1 r (.lst xs.reverse))
theorem pe_listRev (hcalm : X.calm = true) (hgl : Gl X "list") (hml : X.mg "list" = none) (hgr : Gl X "reversed") (hmr : X.mg "reversed" = none) (he : PE X e te)
    (hs : starEach [.Call (.Name "reversed" p') [e] [] pos'] X.env = [(false, eval (.Call (.Name "reversed" p') [e] [] pos') X.env)] := by rfl) (hs' : starEach [e] X.env = [(false, eval e X.env)] := by rfl) :
    PE X (.Call (.Name "list" p) [.Call (.Name "reversed" p') [e] [] pos'] [] pos) (tListRev X.K te) := by
  intro pins s σ H Q I h
  refine wpAny_Call_Name_kw (ld_blt I hgl hml PyProof.Rows.boot_list ?_ (by decide) (by decide))
  refine PyProof.Rows.callWith_type1 (by
    rw [hs]
    refine Calls.spliced_cons ?_
    refine wpAny_Call_Name_kw (ld_blt I hgr hmr PyProof.Rows.boot_reversed ?_ (by decide) (by decide))
    refine PyProof.Rows.callWith_type1 (by
      rw [hs']
      refine Calls.spliced_cons (thn (he pins s σ H _ I h) fun u s1 ⟨x, H1, I1, r1, l, xs, ex, hq, q⟩ => Calls.spliced_nil ?_)
      subst ex
      cases r1
      obtain ⟨its, rv, pl, hz⟩ := I1.list hq
      have hlen := rv.length
      refine call_reversed_list pl.isList ?_
      refine Calls.spliced_nil ?_
      have hne : l ≠ s1.heap.objs.size := by
        obtain ⟨o, ho, _⟩ := pl.isList
        exact Nat.ne_of_lt (Heap.lt_size ho)
      have hl2 : (s1.heap.push (revObj l ((its.toArray.size : Int) - 1))).IsList l its.toArray := pl.isList.at fun o e => Heap.get?_push_of_some _ e
      refine rev_list (s := { s1 with heap := s1.heap.push (revObj l ((its.toArray.size : Int) - 1)) }) (I1.ok.hd hcalm) ⟨_, Heap.get?_push_size _ rfl, rfl, rfl⟩ hl2 hne (by rw [List.size_toArray]; omega) fun h' tk acc c' hk hS hacc => ?_
      have hsz : (s1.heap.push (revObj l ((its.toArray.size : Int) - 1))).objs.size = s1.heap.objs.size + 1 := Heap.size_push ..
      have kp : ∀ b o, s1.heap.get? b = some o → h'.get? b = some o := fun b o e => hk b o (Nat.ne_of_lt (Heap.lt_size e)) (Heap.get?_push_of_some _ e)
      have ea : acc.toList = its.reverse := by
        obtain ⟨ha1, ha2⟩ := hacc
        refine List.ext_getElem? fun j => ?_
        by_cases hj : j < its.length
        · have hja : j < acc.size := by rw [ha1, List.size_toArray]; exact hj
          have := ha2 j acc[j] (Array.getElem?_eq_getElem hja)
          rw [Array.getElem?_toList, Array.getElem?_eq_getElem hja, List.getElem?_reverse hj, ← this]
          simp
        · rw [List.getElem?_eq_none (by rw [Array.length_toList, ha1, List.size_toArray]; omega), List.getElem?_eq_none (by rw [List.length_reverse]; omega)]
      have rv' : Vals xs.reverse acc.toList := by rw [ea]; exact vals_rev rv
      refine ⟨.ref _, upd H1 _ (.lst xs.reverse), I1.laid (t' := tk) kp (by rw [hsz]; exact Nat.le_succ _) ⟨by rw [List.length_reverse]; exact hz, acc.toList, c', rv', ?_⟩, rfl, q _ (I1.hok.fresh (by rw [hsz]; exact Nat.le_succ _))⟩
      rw [hS, Array.toArray_toList]) (by rw [hs']; rfl) (by rw [show starEach ([] : List Expr) X.env = [] from rfl]; rfl)) (by rw [hs]; rfl) (by rw [show starEach ([] : List Expr) X.env = [] from rfl]; rfl)
end
end L2
set_option Elab.async false
set_option linter.all false
set_option maxRecDepth 100000
namespace Qs
open PySem L2 Cn Rw
inductive Qn where
  | table (n : Str) | pick (c : Cond) (q : Qn) | cols (ns : List Str) (q : Qn) | pair (q r : Qn) | join (a b : Str) (q r : Qn)
  | both (q r : Qn) | first (n : Int) (q : Qn) | group (a b n s : Str) (q : Qn) | sort (a : Str) (q : Qn)
def QAt (H : Hp) : Qn → V → Prop
  | .table n, v => ∃ p, v = .ref p ∧ H p = some (.tup [.str "table", .str n])
  | .pick c q, v => ∃ p x y, v = .ref p ∧ H p = some (.tup [.str "pick", x, y]) ∧ CondAt H c x ∧ QAt H q y
  | .cols ns q, v => ∃ p x y, v = .ref p ∧ H p = some (.tup [.str "cols", .ref x, y]) ∧ H x = some (.tup (ns.map V.str)) ∧ QAt H q y
  | .pair q r, v => ∃ p x y, v = .ref p ∧ H p = some (.tup [.str "pair", x, y]) ∧ QAt H q x ∧ QAt H r y
  | .join a b q r, v => ∃ p x y, v = .ref p ∧ H p = some (.tup [.str "join", .str a, .str b, x, y]) ∧ QAt H q x ∧ QAt H r y
  | .both q r, v => ∃ p x y, v = .ref p ∧ H p = some (.tup [.str "both", x, y]) ∧ QAt H q x ∧ QAt H r y
  | .first n q, v => ∃ p y, v = .ref p ∧ H p = some (.tup [.str "first", .int n, y]) ∧ QAt H q y
  | .group a b n s q, v => ∃ p y, v = .ref p ∧ H p = some (.tup [.str "group", .str a, .str b, .str n, .str s, y]) ∧ QAt H q y
  | .sort a q, v => ∃ p y, v = .ref p ∧ H p = some (.tup [.str "sort", .str a, y]) ∧ QAt H q y
theorem QAt.mono {H H' : Hp} (t : ∀ b xs, H b = some (.tup xs) → H' b = some (.tup xs)) : ∀ {q : Qn} {v : V}, QAt H q v → QAt H' q v
  | .table _, _, h => by
    obtain ⟨p, rfl, h⟩ := h
    exact ⟨p, rfl, t _ _ h⟩
  | .pick _ _, _, h => by
    obtain ⟨p, x, y, rfl, h, h1, h2⟩ := h
    exact ⟨p, x, y, rfl, t _ _ h, h1.mono t, h2.mono t⟩
  | .cols _ _, _, h => by
    obtain ⟨p, x, y, rfl, h, h1, h2⟩ := h
    exact ⟨p, x, y, rfl, t _ _ h, t _ _ h1, h2.mono t⟩
  | .pair _ _, _, h => by
    obtain ⟨p, x, y, rfl, h, h1, h2⟩ := h
    exact ⟨p, x, y, rfl, t _ _ h, h1.mono t, h2.mono t⟩
  | .join _ _ _ _, _, h => by
    obtain ⟨p, x, y, rfl, h, h1, h2⟩ := h
    exact ⟨p, x, y, rfl, t _ _ h, h1.mono t, h2.mono t⟩
  | .both _ _, _, h => by
    obtain ⟨p, x, y, rfl, h, h1, h2⟩ := h
    exact ⟨p, x, y, rfl, t _ _ h, h1.mono t, h2.mono t⟩
  | .first _ _, _, h => by
    obtain ⟨p, y, rfl, h, h2⟩ := h
    exact ⟨p, y, rfl, t _ _ h, h2.mono t⟩
  | .group _ _ _ _ _, _, h => by
    obtain ⟨p, y, rfl, h, h2⟩ := h
    exact ⟨p, y, rfl, t _ _ h, h2.mono t⟩
  | .sort _ _, _, h => by
    obtain ⟨p, y, rfl, h, h2⟩ := h
    exact ⟨p, y, rfl, t _ _ h, h2.mono t⟩
theorem QAt.same {H H' : Hp} {q : Qn} {v : V} (e : Same H H') (h : QAt H q v) : QAt H' q v := h.mono fun b xs z => e b _ z
def Side.txt : Side → Str
  | .nm s => s
  | .nu i => toString i
def ends (a b : Side) : Str := Side.txt a ++ " " ++ Side.txt b
def spell : Cond → Str
  | .less a b => "(" ++ "less" ++ " " ++ ends a b ++ ")"
  | .same a b => "(" ++ "same" ++ " " ++ ends a b ++ ")"
  | .no c => "(" ++ "not" ++ " " ++ spell c ++ ")"
  | .an c d => "(" ++ "and" ++ " " ++ (spell c ++ " " ++ spell d) ++ ")"
  | .or c d => "(" ++ "or" ++ " " ++ (spell c ++ " " ++ spell d) ++ ")"
def lineOf : Qn → Str
  | .table n => n
  | .pick c q => "(pick " ++ spell c ++ " " ++ lineOf q ++ ")"
  | .cols ns q => "(cols " ++ Str.join " " ns ++ " " ++ lineOf q ++ ")"
  | .pair q r => "(pair " ++ lineOf q ++ " " ++ lineOf r ++ ")"
  | .join a b q r => "(join " ++ a ++ " " ++ b ++ " " ++ lineOf q ++ " " ++ lineOf r ++ ")"
  | .both q r => "(both " ++ lineOf q ++ " " ++ lineOf r ++ ")"
  | .first n q => "(first " ++ (toString n : Str) ++ " " ++ lineOf q ++ ")"
  | .group a b n s q => "(group " ++ (a ++ " " ++ b ++ " " ++ n ++ " " ++ s) ++ " " ++ lineOf q ++ ")"
  | .sort a q => "(sort " ++ a ++ " " ++ lineOf q ++ ")"
def leK (k : Nat → Int) (i j : Nat) : Bool := decide (k i < k j ∨ (k i = k j ∧ i ≤ j))
def sortIx (k : Nat → Int) (n : Nat) : List Nat := (List.range n).mergeSort (leK k)
theorem sortIx_perm (k : Nat → Int) (n : Nat) : (sortIx k n).Perm (List.range n) := List.mergeSort_perm _ _
theorem leK_pw (k : Nat → Int) (n : Nat) : (sortIx k n).Pairwise fun i j => leK k i j = true :=
  List.pairwise_mergeSort (fun a b c h1 h2 => by
    have h1 := of_decide_eq_true h1
    have h2 := of_decide_eq_true h2
    exact decide_eq_true (by omega)) (fun a b => by
    unfold leK
    rw [Bool.or_eq_true, decide_eq_true_eq, decide_eq_true_eq]
    omega) _
theorem sortIx_uniq {k : Nat → Int} {n : Nat} {is : List Nat} (hp : is.Perm (List.range n)) (hw : is.Pairwise fun i j => leK k i j = true) : is = sortIx k n := by
  refine List.Perm.eq_of_pairwise (le := fun i j => leK k i j = true) (fun a b _ _ h1 h2 => ?_) hw (leK_pw k n) (hp.trans (sortIx_perm k n).symm)
  have h1 := of_decide_eq_true h1
  have h2 := of_decide_eq_true h2
  omega
theorem sortIx_len (k : Nat → Int) (n : Nat) : (sortIx k n).length = n := by rw [(sortIx_perm k n).length_eq, List.length_range]
def keyAt (rows : List (List Int)) (s : Nat) (i : Nat) : Int := (rows.getD i []).getD s 0
def sortR (s : Nat) (rows : List (List Int)) : List (List Int) := (sortIx (keyAt rows s) rows.length).map fun i => rows.getD i []
def keysR (s : Nat) (rows : List (List Int)) : List Int := rows.foldl (fun acc r => if r.getD s 0 ∈ acc then acc else acc ++ [r.getD s 0]) []
def groupOf (s p : Nat) (rows : List (List Int)) (k : Int) : List Int := [k, (((rows.filter fun r => decide (r.getD s 0 = k)).length : Nat) : Int), ((rows.filter fun r => decide (r.getD s 0 = k)).map fun r => r.getD p 0).sum]
def groupQ (s p : Nat) (rows : List (List Int)) : List (List Int) := (keysR s rows).map (groupOf s p rows)
def pairs (xs ys : List (List Int)) : List (List Int) := xs.flatMap fun x => ys.map fun y => x ++ y
section
variable (th : Str → List Str) (tr : Str → List (List Int))
def headsOf : Qn → List Str
  | .table n => th n
  | .pick _ q => headsOf q
  | .cols ns _ => ns
  | .pair q r => headsOf q ++ headsOf r
  | .join _ _ q r => headsOf q ++ headsOf r
  | .both q _ => headsOf q
  | .first _ q => headsOf q
  | .group a _ n s _ => [a, n, s]
  | .sort _ q => headsOf q
def rowsOf : Qn → List (List Int)
  | .table n => tr n
  | .pick c q => (rowsOf q).filter fun r => ev (headsOf th q) r c
  | .cols ns q => (rowsOf q).map fun r => ns.map fun n => r.getD ((headsOf th q).idxOf n) 0
  | .pair q r => pairs (rowsOf q) (rowsOf r)
  | .join a b q r => (pairs (rowsOf q) (rowsOf r)).filter fun z => decide (z.getD ((headsOf th q ++ headsOf th r).idxOf a) 0 = z.getD ((headsOf th q ++ headsOf th r).idxOf b) 0)
  | .both q r => rowsOf q ++ rowsOf r
  | .first n q => (rowsOf q).take n.toNat
  | .group a b _ _ q => groupQ ((headsOf th q).idxOf a) ((headsOf th q).idxOf b) (rowsOf q)
  | .sort a q => sortR ((headsOf th q).idxOf a) (rowsOf q)
end
def letters : List Str := ["a", "b", "f", "g", "h", "i", "j", "k", "l", "o", "p", "q"]
def wHeads : List Str := ["abcabcabcd", "abcabcabce"]
def signs : List Str := ["a", "b", "c", "d", "e", "f", "g", "h", "i", "j", "k", "l", "m", "n", "o", "p", "q", "r", "s", "t", "u", "v", "w", "x", "y", "z"]
def pool (k used : Nat) : List Str := letters ++ (if 2 ≤ used then wHeads else []) ++ (if 3 ≤ used then (["e"] : List Str) else []) ++ ((signs.take k).map fun s => (("n" : Str) ++ s : Str)) ++ ((signs.take k).map fun s => (("s" : Str) ++ s : Str))
def tabs : List Str := ["t", "tuvtuvtuvw", "tuvtuvtuvx", "tuvz"]
def nums : List Int := [0, 1, -1, 2, 10 ^ 30, 3]
def manys : List Int := [9, 1, 5, 3, 12, 7, 0, 10 ^ 9, 4, 2, 8]
def Side.small (hs : List Str) : Side → Prop
  | .nm s => s ∈ hs
  | .nu i => i ∈ nums
def csmall (hs : List Str) : Cond → Prop
  | .less a b => Side.small hs a ∧ Side.small hs b
  | .same a b => Side.small hs a ∧ Side.small hs b
  | .no c => csmall hs c
  | .an c d => csmall hs c ∧ csmall hs d
  | .or c d => csmall hs c ∧ csmall hs d
def okQ (th : Str → List Str) : Qn → Prop
  | .table n => n ∈ tabs
  | .pick c q => csmall (headsOf th q) c ∧ c.size ≤ 6 ∧ okQ th q
  | .cols ns q => ns ≠ [] ∧ ns.Nodup ∧ (∀ n ∈ ns, n ∈ headsOf th q) ∧ okQ th q
  | .pair q r => (∀ n ∈ headsOf th q, n ∉ headsOf th r) ∧ okQ th q ∧ okQ th r
  | .join a b q r => a ∈ headsOf th q ∧ b ∈ headsOf th r ∧ (∀ n ∈ headsOf th q, n ∉ headsOf th r) ∧ okQ th q ∧ okQ th r
  | .both q r => headsOf th q = headsOf th r ∧ okQ th q ∧ okQ th r
  | .first n q => n ∈ manys ∧ okQ th q
  | .group a b n s q => a ∈ headsOf th q ∧ b ∈ headsOf th q ∧ (∃ g ∈ signs, n = ("n" : Str) ++ g ∧ s = ("s" : Str) ++ g) ∧ a ≠ n ∧ a ≠ s ∧ okQ th q
  | .sort a q => a ∈ headsOf th q ∧ okQ th q
def depth : Qn → Nat
  | .table _ => 1
  | .pick _ q => depth q + 1
  | .cols _ q => depth q + 1
  | .pair q r => max (depth q) (depth r) + 1
  | .join _ _ q r => max (depth q) (depth r) + 1
  | .both q r => max (depth q) (depth r) + 1
  | .first _ q => depth q + 1
  | .group _ _ _ _ q => depth q + 1
  | .sort _ q => depth q + 1
structure TabOk (th : Str → List Str) (tr : Str → List (List Int)) : Prop where
  t : ∃ m, 2 ≤ m ∧ m ≤ 12 ∧ th "t" = letters.take m
  w : th "tuvtuvtuvw" = wHeads
  x : th "tuvtuvtuvx" = (["e"] : List Str)
  z : th "tuvz" = th "t"
  rl : ∀ n ∈ tabs, ∀ r ∈ tr n, r.length = (th n).length
  ct : (tr "t").length ≤ 60
  cw : (tr "tuvtuvtuvw").length ≤ 10
  cx : (tr "tuvtuvtuvx").length ≤ 10
  cz : (tr "tuvz").length = 3
theorem letters_nd : letters.Nodup := by decide +kernel
theorem sn_ne : ∀ g ∈ signs, (("n" : Str) ++ g : Str) ≠ (("s" : Str) ++ g : Str) := by decide +kernel
section
variable {th : Str → List Str} {tr : Str → List (List Int)}
theorem TabOk.hd (T : TabOk th tr) : ∀ n ∈ tabs, th n ≠ [] ∧ (th n).Nodup := by
  obtain ⟨m, m1, m2, e⟩ := T.t
  have ht : th "t" ≠ [] ∧ (th "t").Nodup := by
    rw [e]
    refine ⟨fun z => ?_, letters_nd.sublist (List.take_sublist _ _)⟩
    have := congrArg List.length z
    rw [List.length_take] at this
    simp [letters] at this
    omega
  intro n hn
  simp only [tabs, List.mem_cons, List.not_mem_nil, or_false] at hn
  rcases hn with rfl | rfl | rfl | rfl
  · exact ht
  · rw [T.w]; exact ⟨by decide +kernel, by decide +kernel⟩
  · rw [T.x]; exact ⟨by decide +kernel, by decide +kernel⟩
  · rw [T.z]; exact ht
theorem heads_ok (T : TabOk th tr) : ∀ {q : Qn}, okQ th q → headsOf th q ≠ [] ∧ (headsOf th q).Nodup
  | .table n, h => T.hd n h
  | .pick _ q, h => heads_ok T (q := q) h.2.2
  | .cols ns q, h => ⟨h.1, h.2.1⟩
  | .pair q r, h => by
    have h1 := heads_ok T (q := q) h.2.1
    have h2 := heads_ok T (q := r) h.2.2
    refine ⟨by show _ ++ _ ≠ _; simp [h1.1], List.nodup_append.mpr ⟨h1.2, h2.2, fun a ha b hb e => h.1 a ha (e ▸ hb)⟩⟩
  | .join a b q r, h => by
    have h1 := heads_ok T (q := q) h.2.2.2.1
    have h2 := heads_ok T (q := r) h.2.2.2.2
    refine ⟨by show _ ++ _ ≠ _; simp [h1.1], List.nodup_append.mpr ⟨h1.2, h2.2, fun a ha b hb e => h.2.2.1 a ha (e ▸ hb)⟩⟩
  | .both q r, h => heads_ok T (q := q) h.2.1
  | .first _ q, h => heads_ok T (q := q) h.2
  | .group a b n s q, h => by
    obtain ⟨_, _, ⟨g, hg, rfl, rfl⟩, h1, h2, _⟩ := h
    refine ⟨by show [_, _, _] ≠ []; simp, ?_⟩
    show List.Nodup [a, _, _]
    simp [h1, h2, sn_ne g hg]
  | .sort _ q, h => heads_ok T (q := q) h.2
theorem mem_pairs {xs ys : List (List Int)} {z : List Int} (h : z ∈ pairs xs ys) : ∃ x ∈ xs, ∃ y ∈ ys, z = x ++ y := by
  obtain ⟨x, hx, h⟩ := List.mem_flatMap.mp h
  obtain ⟨y, hy, e⟩ := List.mem_map.mp h
  exact ⟨x, hx, y, hy, e.symm⟩
theorem mem_sortR {s : Nat} {rows : List (List Int)} {r : List Int} (h : r ∈ sortR s rows) : r ∈ rows := by
  obtain ⟨i, hi, e⟩ := List.mem_map.mp h
  have hl := List.mem_range.mp ((sortIx_perm _ _).mem_iff.mp hi)
  rw [← e, List.getD_eq_getElem?_getD, List.getElem?_eq_getElem hl]
  exact List.getElem_mem hl
theorem rows_len (T : TabOk th tr) : ∀ {q : Qn}, okQ th q → ∀ r ∈ rowsOf th tr q, r.length = (headsOf th q).length
  | .table n, h => fun r m => T.rl n h r m
  | .pick c q, h => fun r m => rows_len T (q := q) h.2.2 r (List.mem_filter.mp m).1
  | .cols ns q, h => fun r m => by
    obtain ⟨x, _, rfl⟩ := List.mem_map.mp m
    rw [List.length_map]; rfl
  | .pair q s, h => fun r m => by
    obtain ⟨x, hx, y, hy, rfl⟩ := mem_pairs m
    show _ = (headsOf th q ++ headsOf th s).length
    rw [List.length_append, List.length_append, rows_len T (q := q) h.2.1 x hx, rows_len T (q := s) h.2.2 y hy]
  | .join a b q s, h => fun r m => by
    obtain ⟨x, hx, y, hy, rfl⟩ := mem_pairs (List.mem_filter.mp m).1
    show _ = (headsOf th q ++ headsOf th s).length
    rw [List.length_append, List.length_append, rows_len T (q := q) h.2.2.2.1 x hx, rows_len T (q := s) h.2.2.2.2 y hy]
  | .both q s, h => fun r m => by
    rcases List.mem_append.mp m with m | m
    · exact rows_len T (q := q) h.2.1 r m
    · have := rows_len T (q := s) h.2.2 r m
      rw [← h.1] at this
      exact this
  | .first n q, h => fun r m => rows_len T (q := q) h.2 r (List.mem_of_mem_take m)
  | .group a b n s q, h => fun r m => by
    obtain ⟨x, _, rfl⟩ := List.mem_map.mp m
    rfl
  | .sort a q, h => fun r m => rows_len T (q := q) h.2 r (mem_sortR m)
end
end Qs
namespace Qs
open PySem L2 Cn Rw
theorem letters_len : ∀ s ∈ letters, s.length ≤ 10 := by decide +kernel
theorem w_len : ∀ s ∈ wHeads, s.length ≤ 10 := by decide +kernel
theorem e_len : ∀ s ∈ (["e"] : List Str), s.length ≤ 10 := by decide +kernel
theorem sign_len : ∀ g ∈ signs, (("n" : Str) ++ g : Str).length ≤ 10 ∧ (("s" : Str) ++ g : Str).length ≤ 10 ∧ g.length = 1 := by decide +kernel
section
variable {th : Str → List Str} {tr : Str → List (List Int)}
theorem tab_names (T : TabOk th tr) : ∀ n ∈ tabs, ∀ s ∈ th n, s.length ≤ 10 := by
  obtain ⟨m, m1, m2, e⟩ := T.t
  have ht : ∀ s ∈ th "t", s.length ≤ 10 := by
    rw [e]
    exact fun s hs => letters_len s (List.mem_of_mem_take hs)
  intro n hn
  simp only [tabs, List.mem_cons, List.not_mem_nil, or_false] at hn
  rcases hn with rfl | rfl | rfl | rfl
  · exact ht
  · rw [T.w]; exact w_len
  · rw [T.x]; exact e_len
  · rw [T.z]; exact ht
theorem name_len (T : TabOk th tr) : ∀ {q : Qn}, okQ th q → ∀ s ∈ headsOf th q, s.length ≤ 10
  | .table n, h => tab_names T n h
  | .pick _ q, h => name_len T (q := q) h.2.2
  | .cols ns q, h => fun s hs => name_len T (q := q) h.2.2.2 s (h.2.2.1 s hs)
  | .pair q r, h => fun s hs => by
    rcases List.mem_append.mp hs with hs | hs
    · exact name_len T (q := q) h.2.1 s hs
    · exact name_len T (q := r) h.2.2 s hs
  | .join a b q r, h => fun s hs => by
    rcases List.mem_append.mp hs with hs | hs
    · exact name_len T (q := q) h.2.2.2.1 s hs
    · exact name_len T (q := r) h.2.2.2.2 s hs
  | .both q r, h => name_len T (q := q) h.2.1
  | .first _ q, h => name_len T (q := q) h.2
  | .group a b n s q, h => fun x hx => by
    obtain ⟨ha, _, ⟨g, hg, rfl, rfl⟩, _, _, hq⟩ := h
    have hx' : x ∈ [a, ("n" : Str) ++ g, ("s" : Str) ++ g] := hx
    simp only [List.mem_cons, List.not_mem_nil, or_false] at hx'
    rcases hx' with rfl | rfl | rfl
    · exact name_len T (q := q) hq _ ha
    · exact (sign_len g hg).1
    · exact (sign_len g hg).2.1
  | .sort _ q, h => name_len T (q := q) h.2
end
def StAt (th : Str → List Str) (tr : Str → List (List Int)) (H : Hp) (v : V) (q : Qn) : Prop := ∃ (p : Addr) (qv : V) (hp rp : Addr) (rs : List (Addr × List Int)), v = .ref p ∧ H p = some (.tup [qv, .str (lineOf q), .ref hp, .ref rp]) ∧ QAt H q qv ∧
  H hp = some (.lst ((headsOf th q).map V.str)) ∧ RowsAt H rp rs ∧ rs.map (·.2) = rowsOf th tr q
theorem StAt.same {th : Str → List Str} {tr : Str → List (List Int)} {H H' : Hp} {v : V} {q : Qn} (h : StAt th tr H v q) (e : Same H H') : StAt th tr H' v q := by
  obtain ⟨p, qv, hp, rp, rs, rfl, h1, h2, h3, h4, h5⟩ := h
  exact ⟨p, qv, hp, rp, rs, rfl, e _ _ h1, h2.same e, e _ _ h3, h4.same e, h5⟩
end Qs
set_option Elab.async false
set_option linter.all false
set_option maxRecDepth 100000
namespace L2
open PySem PySem.Spec PyProof.Rows
section
variable {X : Cx}
def rStripC (f : Str → Str → Str) : V → List V → Hp → VK → Prop := fun x vs H Q => ∃ z y, x = .str z ∧ vs = [.str y] ∧ z.length ≤ sizeLine ∧ Q (.str (f z y)) H
theorem mt_strip : MtM X "str.strip" (rStripC Txt.stripChars) := by
  intro pins s σ H x vs v us Q I rx rv h
  obtain ⟨z, y, rfl, rfl, hz, q⟩ := h
  obtain ⟨t, rfl⟩ := rx
  obtain ⟨u, rfl, t', rfl⟩ := rv.one
  exact SC.stripChars (fun _ _ => ⟨.str _, H, I.tok _, ⟨_, rfl⟩, q⟩) hz
theorem mt_lstrip : MtM X "str.lstrip" (rStripC Txt.lstripChars) := by
  intro pins s σ H x vs v us Q I rx rv h
  obtain ⟨z, y, rfl, rfl, hz, q⟩ := h
  obtain ⟨t, rfl⟩ := rx
  obtain ⟨u, rfl, t', rfl⟩ := rv.one
  exact SC.lstripChars (fun _ _ => ⟨.str _, H, I.tok _, ⟨_, rfl⟩, q⟩) hz
theorem mt_rstrip : MtM X "str.rstrip" (rStripC Txt.rstripChars) := by
  intro pins s σ H x vs v us Q I rx rv h
  obtain ⟨z, y, rfl, rfl, hz, q⟩ := h
  obtain ⟨t, rfl⟩ := rx
  obtain ⟨u, rfl, t', rfl⟩ := rv.one
  exact SC.rstripChars (fun _ _ => ⟨.str _, H, I.tok _, ⟨_, rfl⟩, q⟩) hz
def rStarts : V → List V → Hp → VK → Prop := fun x vs H Q => ∃ z y, x = .str z ∧ vs = [.str y] ∧ Q (.bl (Txt.startswith z y)) H
theorem mt_startswith : MtM X "str.startswith" rStarts := by
  intro pins s σ H x vs v us Q I rx rv h
  obtain ⟨z, y, rfl, rfl, q⟩ := h
  obtain ⟨t, rfl⟩ := rx
  obtain ⟨u, rfl, t', rfl⟩ := rv.one
  exact SC.startswith ⟨.bl _, H, I, rfl, q⟩
def rIndexS : V → List V → Hp → VK → Prop := fun x vs H Q => ∃ z y i r, x = .str z ∧ vs = [.str y] ∧ Builtin.Str.occurrences z y 0 z.length 1 = i :: r ∧ Q (.int ((i : Nat) : Int)) H
theorem mt_sindex : MtM X "str.index" rIndexS := by
  intro pins s σ H x vs v us Q I rx rv h
  obtain ⟨z, y, i, r, rfl, rfl, ho, q⟩ := h
  obtain ⟨t, rfl⟩ := rx
  obtain ⟨u, rfl, t', rfl⟩ := rv.one
  exact SC.index ho ⟨.int _, H, I.tok _, ⟨_, rfl⟩, q⟩
theorem vals_from (ss : List Str) : ∀ k, Vals (ss.map V.str) (strsFrom k ss) := by
  induction ss with
  | nil => intro k; exact .nil
  | cons a r ih => intro k; exact .cons ⟨_, rfl⟩ (ih (k + 1))
def rSplit : V → List V → Hp → VK → Prop := fun x vs H Q => ∃ z y, x = .str z ∧ vs = [.str y] ∧ y.length ≠ 0 ∧ z.length + 2 ≤ sizeLine ∧ ∀ l, H l = none → Q (.ref l) (upd H l (.lst ((Txt.split z y).map V.str)))
theorem mt_split : MtM X "str.split" rSplit := by
  intro pins s σ H x vs v us Q I rx rv h
  obtain ⟨z, y, rfl, rfl, hy0, hz, q⟩ := h
  obtain ⟨t, rfl⟩ := rx
  obtain ⟨u, rfl, t', rfl⟩ := rv.one
  have hy : (y.length == 0) = false := by simpa using hy0
  have fin : ∀ (ss : List Str) (us : List Value) (k : Nat), Txt.split z y = ss → Vals (ss.map V.str) us → ss.length ≤ sizeLine → EP X pins σ Q (.ref s.heap.objs.size) { s with heap := s.heap.push { cls := .type "list", data := .seq us.toArray }, toks := k } := fun ss us k e hv hl => by
    subst e
    exact ⟨.ref _, _, I.lnew (t' := k) hv (by rw [List.length_map]; exact hl), rfl, q _ I.fresh⟩
  have one : 1 ≤ sizeLine := by omega
  have hn := split_le z y
  cases h1 : (decide (z.length < y.length) || decide (Builtin.Str.strKind z < Builtin.Str.strKind y))
  · cases hf : (Builtin.Str.occurrences z y 0 z.length (z.length + 1)).isEmpty
    · have e : Txt.split z y = Builtin.Str.partsBetween z (Builtin.Str.occurrences z y 0 z.length (z.length + 1)) y.length := (if_neg (ne_true_of_eq_false h1)).trans (if_neg (ne_true_of_eq_false hf))
      rw [e] at hn
      refine call_meets F.slot_str_split (typeIs_str _ _ _) F.entry_str_split (F.args_str_split_2 _ _) (meets_str_split_sep z y t t' h1 hy hf (by omega) (by omega)) ?_
      exact fin _ _ _ e (vals_from _ _) (by omega)
    · refine call_meets F.slot_str_split (typeIs_str _ _ _) F.entry_str_split (F.args_str_split_2 _ _) (meets_str_split_not_found z y t t' h1 hy hf) ?_
      exact fin [z] [Value.str z t] s.toks ((if_neg (ne_true_of_eq_false h1)).trans (if_pos hf)) (.cons ⟨_, rfl⟩ .nil) one
  · refine call_meets F.slot_str_split (typeIs_str _ _ _) F.entry_str_split (F.args_str_split_2 _ _) (meets_str_split_cannot_occur z y t t' h1) ?_
    exact fin [z] [Value.str z t] s.toks (if_pos h1) (.cons ⟨_, rfl⟩ .nil) one
end
end L2
set_option Elab.async false
set_option linter.all false
set_option maxRecDepth 100000
namespace L2
open PySem PySem.Spec PyProof.Rows
def Its (x : Str) : It := ⟨fun i _ => i < x.cps.size, fun i H v H' => H' = H ∧ ∃ c, x.cps[i]? = some c ∧ v = .str ⟨#[c]⟩, fun i _ => i = x.cps.size⟩
section
variable {X : Cx} {tg : Expr}
def iStr (tl : TE) : TI := fun σ H R => tl σ H fun x H1 => ∃ z, x = .str z ∧ R (Its z) H1
theorem turn_str {P : Program} {w : World} {K : PySem.W.Frag} {p : Pos} {n : Str} (x : Str) (t : Tok) (T : String) (it : Addr)
    (W : ∀ A' : Around, A'.handled = none → Walks P w A' it [it] [it] x.cps.size (SignAt x) (fun i h => h.IsStrIter it T x t i))
    (hself : ∀ (A : Around) (i : Nat) (s : Shared) (Q : Value → Shared → Prop) (E : Value → Shared → Prop), s.heap.IsStrIter it T x t i → Q (.ref it) s → wpAny (model P w) A (pyIter (.ref it)) Q E s) : Turn P w K (.Name n p) (Its x) [it] it (fun i h => h.IsStrIter it T x t i) where
  mem := by simp
  obj := fun i h st b hb => by
    have e : b = it := by simpa using hb
    subst e
    obtain ⟨o, e, c, d⟩ := st
    exact ⟨o, e, fun v z => by rw [d] at z; cases z⟩
  keep := fun i h h' st k => let ⟨o, ho, r⟩ := st; ⟨o, k it (by simp) o ho, r⟩
  item := by
    intro X hP hw hK hc i pins s σ H E I hf st hg
    subst hP hw hK
    obtain ⟨f0, f1, f2, f3, f4, f5⟩ := hf it (by simp)
    refine (W X.A (I.ok.hd hc)).item i s _ E hg st fun v h' tk hv st' hk => ?_
    obtain ⟨c, u, hcx, rfl⟩ := hv
    have I1 : Inv X pins σ H { s with heap := h', toks := tk } := I.turned (t' := tk) (fun b o hb e => hk b o (by simpa using hb) e) f0 f1 f3 f4 f5
    refine ⟨_, rfl, ?_⟩
    unfold letOwnedTupleGo
    exact wpAny_pure ⟨.str ⟨#[c]⟩, H, I1, ⟨_, rfl⟩, ⟨rfl, c, hcx, rfl⟩, st', fun b hb => (hf b hb).1⟩
  done := by
    intro X hP hw hK hc i pins s σ H E I hf st hg
    subst hP hw hK
    obtain ⟨f0, f1, f2, f3, f4, f5⟩ := hf it (by simp)
    cases (show i = x.cps.size from hg)
    exact (W X.A (I.ok.hd hc)).done s _ E st fun h' tk hk => ⟨rfl, I.turned (t' := tk) (fun b o hb e => hk b o (by simpa using hb) e) f0 f1 f3 f4 f5⟩
  self := fun A i s Q E st h => hself A i s Q E st h
theorem pi_str {l : Expr} {tl : TE} {n : Str} {p : Pos} (hl : PE X l tl) : PI X (.Name n p) l (iStr tl) := by
  intro pins s σ H R I h
  refine thn (hl pins s σ H _ I h) fun v s1 ⟨x, H1, I1, r1, q1⟩ => ?_
  obtain ⟨z, e, q⟩ := q1
  subst e
  obtain ⟨t, rfl⟩ := r1
  have fp : ∀ b ∈ [s1.heap.objs.size], FpOk X pins H1 b := fun b hb => by
    have e : b = s1.heap.objs.size := by simpa using hb
    subst e
    exact I1.fpOk (Nat.le_refl _) (I1.hok.fresh (Nat.le_refl _))
  cases ha : z.cps.all (· < 128)
  · exact wpAny_pyIter_wide ha ⟨s1.heap.objs.size, [s1.heap.objs.size], _, _, H1, rfl, I1.kept (t' := s1.toks) fun b o e => Heap.get?_push_of_some _ e,
      turn_str z t "str_iterator" _ (fun A' hA => Walks.strWide hA _ z t) (fun _ _ _ _ _ st h => wpAny_pyIter_striter_wide st h), ⟨_, Heap.get?_push_size _ rfl, rfl, rfl⟩, fp, q⟩
  · exact wpAny_pyIter_ascii ha ⟨s1.heap.objs.size, [s1.heap.objs.size], _, _, H1, rfl, I1.kept (t' := s1.toks) fun b o e => Heap.get?_push_of_some _ e,
      turn_str z t "str_ascii_iterator" _ (fun A' hA => Walks.strAscii hA _ z t) (fun _ _ _ _ _ st h => wpAny_pyIter_striter_ascii st h), ⟨_, Heap.get?_push_size _ rfl, rfl, rfl⟩, fp, q⟩
end
theorem for_str {z : Str} {g : TG} {tb : TS} {D : Ends} {σ : St} {H : Hp} (Pv : Nat → St → Hp → Prop) (h0 : Pv 0 σ H)
    (hs : ∀ (i c : Nat) σ H, z.cps[i]? = some c → Pv i σ H → g (.str ⟨#[c]⟩) σ H fun σ2 H2 => tb { D with nx := Pv (i + 1), ct := Pv (i + 1), bk := D.nx } σ2 H2) (hd : ∀ σ H, Pv z.cps.size σ H → D.nx σ H) :
    ∃ W : Nat → Nat → St → Hp → Prop, (∃ m, W 0 m σ H) ∧ ∀ i m σ H, W i m σ H →
      ((Its z).stop i H ∧ D.nx σ H) ∨ ((Its z).go i H ∧ ∃ N : St → Hp → Prop, (∀ σ' H', N σ' H' → ∃ m', m' < m ∧ W (i + 1) m' σ' H') ∧ ∀ x H', (Its z).yld i H x H' → g x σ H' fun σ2 H2 => tb { D with nx := N, ct := N, bk := D.nx } σ2 H2) := by
  refine ⟨fun i m σ H => m = z.cps.size - i ∧ i ≤ z.cps.size ∧ Pv i σ H, ⟨z.cps.size, by simp, Nat.zero_le _, h0⟩, ?_⟩
  rintro i m σ H ⟨rfl, hi, p⟩
  by_cases hlt : i < z.cps.size
  · refine .inr ⟨hlt, Pv (i + 1), fun σ' H' p' => ⟨z.cps.size - (i + 1), by omega, rfl, hlt, p'⟩, fun x H' y => ?_⟩
    obtain ⟨e, c, hc, ex⟩ := y
    subst e ex
    exact hs i c σ _ hc p
  · have e : i = z.cps.size := by omega
    subst e
    exact .inl ⟨rfl, hd σ H p⟩
theorem part_of {v : Value} {o : Option Int} (p : IsPart v o) : ∃ l : Option (Int × Tok), v = partValue l ∧ l.map (·.1) = o := by
  cases p with
  | none => exact ⟨none, rfl, rfl⟩
  | int i t => exact ⟨some (i, t), rfl, rfl⟩
section
variable {X : Cx}
def rSlS : V → Option Int → Option Int → Hp → VK → Prop := fun x lo hi H Q => ∃ z, x = .str z ∧ z.length ≤ sizeLine ∧ Q (.str (Txt.slice z lo hi)) H
theorem sl_str : SlR X rSlS := by
  intro pins s σ H x v vl vu lo hi sl Q I rx hs pl pu h
  obtain ⟨z, rfl, hz, q⟩ := h
  obtain ⟨t, rfl⟩ := rx
  obtain ⟨l, rfl, hl⟩ := part_of pl
  obtain ⟨u, rfl, hu⟩ := part_of pu
  subst hl hu
  refine ⟨"str", _, F.slot_str_getitem.lookup, typeIs_str s z t, ?_⟩
  refine wpAny_getItem_str_slice (l := l) (u := u) (st := none) hs rfl ?_
  exact post_val_or_str ⟨Nat.le_trans (Txt.slice_le z _ _) hz, fun t' k => ⟨.str _, H, I.tok _, ⟨_, rfl⟩, q⟩⟩
def KTabs (K : PySem.W.Frag) (a : Addr) (D : List (Str × List Str)) : Prop :=
  KTD.tabLook (KTD.datLooks fun b => K.lookup b) (fun b => K.lookup b) a (D.map fun p => (p.1, KTD.Dat.tup (p.2.map PyData.str))) = true
def tabAt (D : List (Str × List Str)) (k : Str) : Option (List Str) := D.lookup k
def hidK (K : PySem.W.Frag) (h : Heap) : Heap := PySem.W.hideAll h ((List.range h.objs.size).filter fun a => (K.lookup a).isNone)
theorem hidK_get {K : PySem.W.Frag} {h : Heap} (i : K.In h) {b : Addr} {o : Obj} (e : K.lookup b = some o) : (hidK K h).get? b = some o :=
  PySem.W.hideAll_get _ (i b o e) fun hm => by
    have q : (K.lookup b).isNone = true := (List.mem_filter.mp hm).2
    rw [e] at q
    cases q
theorem of_hidK {K : PySem.W.Frag} {h : Heap} (i : K.In h) {b : Addr} {o : Obj} (e : (hidK K h).get? b = some o) : K.lookup b = some o := by
  have e' : h.get? b = some o := PySem.W.of_hideAll _ e
  cases q : K.lookup b with
  | none =>
    have hm : b ∈ (List.range h.objs.size).filter fun a => (K.lookup a).isNone := List.mem_filter.mpr ⟨List.mem_range.mpr (Heap.lt_size e'), by rw [q]; rfl⟩
    have z : (hidK K h).get? b = none := PySem.W.hideAll_none _ hm
    rw [z] at e
    cases e
  | some u =>
    have := i b u q
    rw [e'] at this
    exact this.symm
theorem here_of {K : PySem.W.Frag} {h : Heap} {a : Addr} {D : List (Str × List Str)} (i : K.In h) (T : KTabs K a D) : KTD.Here (hidK K h) h a (D.map fun p => (p.1, KTD.Dat.tup (p.2.map PyData.str))) :=
  ⟨KTD.tab_of_look (KTD.dat_of_looks fun b o e => hidK_get i e) (fun b o e => hidK_get i e) T, fun b o e => PySem.W.of_hideAll _ e⟩
theorem datum_of (k : Str) : ∀ D : List (Str × List Str), KTD.datumAt k (D.map fun p => (p.1, KTD.Dat.tup (p.2.map PyData.str))) = (tabAt D k).map fun xs => KTD.Dat.tup (xs.map PyData.str)
  | [] => rfl
  | (x, xs) :: D => by
    have ih := datum_of k D
    unfold tabAt at ih ⊢
    simp only [List.map_cons, KTD.datumAt, List.lookup_cons]
    by_cases h : k = x
    · subst h
      simp
    · rw [show (k == x) = false from by simpa using h]
      simp [h, ih]
theorem flats_strs : ∀ {vs : List Value} {xs : List Str}, KTD.Flats vs (xs.map PyData.str) → Vals (xs.map V.str) vs
  | [], [], _ => .nil
  | v :: vs, x :: xs, h => by
    cases h with
    | cons h1 h2 =>
      obtain ⟨t, rfl⟩ := PyProof.V.Flat.str_inv h1
      exact .cons ⟨t, rfl⟩ (flats_strs h2)
  | [], _ :: _, h => by cases h
  | _ :: _, [], h => by cases h
def rInTab (K : PySem.W.Frag) : R2 := fun x y H Q => ∃ k a D, x = .str k ∧ y = .ref a ∧ KTabs K a D ∧ Q (.bl (tabAt D k).isSome) H
theorem op_in_tab : OpR X (compareOp .In) (rInTab X.K) := by
  intro pins s σ H x y v u Q I rx ry h
  obtain ⟨k, a, D, rfl, rfl, T, q⟩ := h
  obtain ⟨t, rfl⟩ := rx
  cases ry
  refine KTD.in_text (here_of I.kIn T) ⟨.bl _, H, I.tok _, rfl, ?_⟩
  rw [← KTD.isSome_datumAt, datum_of, Option.isSome_map]
  exact q
def rIxTab (K : PySem.W.Frag) : R2 := fun x y H Q => ∃ a k D xs, x = .ref a ∧ y = .str k ∧ KTabs K a D ∧ tabAt D k = some xs ∧ xs.length ≤ sizeLine ∧ ∀ b, SqT K H b (xs.map V.str) → Q (.ref b) H
theorem ix_tab : IxR X (rIxTab X.K) := by
  intro value slice pins s σ H x y v u Q I rx ry h hs
  obtain ⟨a, k, D, xs, rfl, rfl, T, hx, hz, q⟩ := h
  cases rx
  obtain ⟨t, rfl⟩ := ry
  have T' := here_of I.kIn T
  refine tail_any T'.typeIs slot_dict_getitem.lookup ?_ hs
  unfold getItem
  try with_reducible refine wpAny_holding ?_
  refine wpAny_bind (wpAny_sequenceKey T'.typeIs (by decide) ?_)
  refine wpAny_bind (wpAny_callSpecial?_slot (name := Str.ofString "__getitem__") T'.typeIs slot_dict_getitem
    (wpAny_call_entry slot_dict_getitem T'.typeIs entry_dict_getitem ?_ (args_dict_getitem _ _)))
  show wpAny _ _ (dictGet a (.str k t) >>= _) _ _ s
  have hd : KTD.datumAt k (D.map fun p => (p.1, KTD.Dat.tup (p.2.map PyData.str))) = some (KTD.Dat.tup (xs.map PyData.str)) := by rw [datum_of, hx]; rfl
  refine wpAny_bind (KTD.dictGet_text T' (fun d w ha hv => ?_) fun hn => ?_)
  · rw [hd] at ha
    cases ha
    obtain ⟨b, vs, rfl, ⟨o, ho, hc, n, hdat⟩, fl⟩ := hv
    have r := flats_strs fl
    have hl := r.length
    rw [List.length_map] at hl
    refine wpAny_pure ⟨_, rfl, wpAny_pure ⟨.ref b, H, I.tok _, rfl, q b (.inr ⟨o, vs.toArray, n, of_hidK I.kIn ho, hc, hdat, by rw [List.size_toArray]; omega, by simpa using r⟩)⟩⟩
  · rw [hd] at hn
    cases hn
end
end L2
set_option Elab.async false
set_option linter.all false
set_option maxRecDepth 100000
namespace L2
open PySem PySem.Spec PyProof.Rows
theorem noFill_tuple_mul : fillsNumberSlot (.type "tuple") "mul" = pure false :=
  PySem.fillsNumberSlot_seq (id := "tuple.__mul__") (r := some (.builtin "tuple.__rmul__")) F.slot_tuple_mul.lookup (by decide +kernel) F.slot_tuple_rmul.lookup (by decide +kernel)
theorem repeat_tuple : seqRepeat? (.type "tuple") = pure (some (.builtin "tuple.__mul__")) := by
  unfold seqRepeat?
  rw [PySem.seqSlot_of (T := "tuple") (name := "__mul__") (id := "tuple.__mul__") F.slot_tuple_mul.lookup (by decide +kernel), PySem.seqSlot_of (T := "tuple") (name := "__rmul__") (id := "tuple.__rmul__") F.slot_tuple_rmul.lookup (by decide +kernel)]
  rfl
theorem rmul_int_tuple (a : Int) (t : Tok) (l : Addr) (its : Array Value) :
    Meets (Builtin.«int.__rmul__» ⟨[.int a t, .ref l], []⟩) (fun _ R s => IsTup s.heap l its ∧ R (.ok (.ret Value.notImplemented)) s) :=
  .of_wp fun prog w A R s h => by
    obtain ⟨hp, g, d, tk, os⟩ := s
    obtain ⟨⟨⟨cls, dd, dat, sl⟩, hl, hc, n, hd⟩, h⟩ := h
    simp only at hc hd
    subst hc hd
    have hsub : isSubtype (.type "tuple") (.type "int") = pure false := by rw [isSubtype_type]; kernel_rfl
    wp_walk
    all_goals exact ⟨_, rfl, h⟩
theorem tuple_mul1 (l : Addr) (items : Array Value) (n : Nat) (dd : Option Addr) (sl : Array (Option Value)) (u : Tok) :
    Meets (Builtin.«tuple.__mul__» ⟨[.ref l, .int 1 u], []⟩) (fun _ R s => s.heap.get? l = some { cls := .type "tuple", dict := dd, data := .seq items n, slots := sl } ∧ R (.ok (.ret (.ref l))) s) :=
  .of_wp fun prog w A R s h => by
    obtain ⟨hp, g, d, tk, os⟩ := s
    obtain ⟨hl, h⟩ := h
    have f1 := AutoSeq1.idx_int
    have f2 := AutoSeq1.sub_tuple_tuple
    wp_walk
    exact ⟨_, rfl, h⟩
theorem tuple_mul2 (l : Addr) (items : Array Value) (n : Nat) (dd : Option Addr) (sl : Array (Option Value)) (x : Int) (u : Tok) (h0 : items.isEmpty = false) (h1 : 2 ≤ x) (h2 : x < 2 ^ 40) (h3 : items.size * x.toNat ≤ sizeLine)
    (hsz : (List.foldl (fun x1 x2 => x1 ++ x2) #[] (List.replicate x.toNat items)).size ≤ sizeLine) :
    Meets (Builtin.«tuple.__mul__» ⟨[.ref l, .int x u], []⟩) (fun _ R s => s.heap.get? l = some { cls := .type "tuple", dict := dd, data := .seq items n, slots := sl } ∧
      R (.ok (.ret (.ref s.heap.objs.size))) { s with heap := s.heap.push { cls := .type "tuple", data := .seq (List.foldl (fun x1 x2 => x1 ++ x2) #[] (List.replicate x.toNat items)) } }) :=
  .of_wp fun prog w A R s h => by
    obtain ⟨hp, g, d, tk, os⟩ := s
    obtain ⟨hl, h⟩ := h
    have f1 := AutoSeq1.idx_int
    have f2 := AutoSeq1.sub_tuple_tuple
    have hmul : (items.size : Int) * x = ((items.size * x.toNat : Nat) : Int) := by
      rw [Int.natCast_mul, Int.toNat_of_nonneg (by omega)]
    have hs : sizeLine = 16777216 := sizeLine_eq
    wp_walk
    refine wpAny_ite_split (fun hab => absurd hab ?_) (fun _ => ?_)
    · simp only [Bool.or_eq_true, decide_eq_true_eq, not_or]
      omega
    wp_walk
    refine wpAny_ite_split (fun hab => absurd hab ?_) (fun _ => ?_)
    · rw [h0, Bool.false_or, beq_iff_eq]
      omega
    wp_walk
    refine wpAny_ite_split (fun hab => absurd hab ?_) (fun _ => ?_)
    · rw [h0, Bool.or_false, decide_eq_true_eq]
      omega
    refine wpAny_ite_split (fun hab => absurd hab ?_) (fun _ => ?_)
    · rw [hmul]
      omega
    refine wpAny_ite_split (fun hab => absurd hab ?_) (fun _ => ?_)
    · unfold Builtin.Tuple.tupleTooMany
      rw [hmul, decide_eq_true_eq]
      omega
    wp_walk
    refine wpAny_ite_split (fun hab => absurd hsz (Nat.not_le.mpr hab)) (fun _ => ?_)
    wp_walk
    exact ⟨_, rfl, h⟩
section
variable {X : Cx}
def rRepT (K : PySem.W.Frag) : R2 := fun x y H Q => ∃ a k xs, x = .ref a ∧ y = .int k ∧ SqT K H a xs ∧ xs ≠ [] ∧ 1 ≤ k ∧ xs.length * k.toNat ≤ sizeLine ∧ (k = 1 → Q (.ref a) H) ∧
  (k ≠ 1 → ∀ p, H p = none → Q (.ref p) (upd H p (.tup (List.replicate k.toNat xs).flatten)))
theorem op_repT : OpR X (binaryOp .Mult) (rRepT X.K) := by
  intro pins s σ H x y v u Q I rx ry h
  obtain ⟨l, k, xs, rfl, rfl, hH, hne, h1, hz, q1, q2⟩ := h
  cases rx
  obtain ⟨t, rfl⟩ := ry
  obtain ⟨its, r, pl, hsz⟩ := I.tuple hH
  have hl := r.length
  have hn : sizeLine = 16777216 := sizeLine_eq
  have hi0 : its ≠ [] := fun e => hne (r.nil_iff.mp e)
  have hkz : k.toNat ≤ sizeLine := by
    have : 1 ≤ xs.length := List.length_pos_iff.mpr hne
    calc k.toNat = 1 * k.toNat := (Nat.one_mul _).symm
      _ ≤ xs.length * k.toNat := Nat.mul_le_mul_right _ this
      _ ≤ sizeLine := hz
  refine wpAny_binaryOp_repeat_ref (T := "tuple") (U := "int") (by decide) pl.typeIs (fun s' => typeIs_int s' k t) noFill_tuple_mul F.fills_int_mul F.slot_int_rmul repeat_tuple F.slot_int_index.lookup
    (call_meets F.slot_int_rmul (typeIs_int s k t) F.entry_int_rmul (F.args_int_rmul_2 _ _) (rmul_int_tuple k t l its.toArray)
      ⟨pl, rfl, pl.typeIs, ?_⟩)
  obtain ⟨⟨cls, dd, data, sl⟩, ho, hc, n, hd⟩ := id pl
  simp only at hc hd
  subst hc hd
  by_cases hk1 : k = 1
  · subst hk1
    exact call_meets F.slot_tuple_mul pl.typeIs F.entry_tuple_mul (F.args_tuple_mul_2 _ _) (tuple_mul1 l its.toArray n dd sl t) ⟨ho, ⟨.ref l, H, I, rfl, q1 rfl⟩⟩
  · have hf : List.foldl (fun x1 x2 => x1 ++ x2) #[] (List.replicate k.toNat its.toArray) = (List.replicate k.toNat its).flatten.toArray := by
      have := foldl_rep its k.toNat []
      rw [List.nil_append] at this
      exact this
    have hlr : (List.replicate k.toNat xs).flatten.length ≤ sizeLine := by rw [len_rep, Nat.mul_comm]; exact hz
    have hlv := (r.rep k.toNat).length
    refine call_meets F.slot_tuple_mul pl.typeIs F.entry_tuple_mul (F.args_tuple_mul_2 _ _) (tuple_mul2 l its.toArray n dd sl k t (by
      cases its with
      | nil => exact absurd rfl hi0
      | cons a b => rfl) (by omega) (by omega) (by rw [List.size_toArray, ← hl]; exact hz) (by rw [hf, List.size_toArray, ← hlv]; exact hlr)) ⟨ho, ?_⟩
    rw [hf]
    exact ⟨.ref _, _, I.laid (t' := s.toks) (o := .tup (List.replicate k.toNat xs).flatten) (fun b ob q => Heap.get?_push_of_some _ q) (Nat.le_refl _) ⟨hlr, _, r.rep k.toNat, IsTup.new _ _⟩, rfl, q2 hk1 _ (I.hok.fresh (Nat.le_refl _))⟩
end
end L2
set_option Elab.async false
set_option linter.all false
set_option maxRecDepth 100000
namespace L2
open PySem PySem.Spec PyProof.Rows
open Builtin.SmallTypes (nextOf)
def Draw (prog : Program) (w : World) (it : Addr) (v : Value) (C N : Heap → Prop) : Prop := ∀ (A : Around) (s : Shared) (Q : Value → Shared → Prop) (E : Value → Shared → Prop), C s.heap →
  (∀ h', N h' → Heap.SameBut it s.heap h' → Q v { s with heap := h' }) → wpAny (model prog w) A (nextOf (.ref it)) Q E s
def DrawEnd (prog : Program) (w : World) (it : Addr) (C : Heap → Prop) : Prop := ∀ (A : Around) (s : Shared) (Q : Value → Shared → Prop) (E : Value → Shared → Prop), A.handled = none → C s.heap →
  (∀ h' e, Heap.ExtBut it s.heap h' → (∃ o, h'.get? e = some o ∧ o.cls = .type "StopIteration") → E (.ref e) { s with heap := h' }) → wpAny (model prog w) A (nextOf (.ref it)) Q E s
def On (l : List Addr) (C : Heap → Prop) : Prop := ∀ h h' : Heap, (∀ c ∈ l, ∀ o, h.get? c = some o → h'.get? c = some o) → C h → C h'
section
variable {prog : Program} {w : World}
theorem draw_list {it l : Addr} {i : Nat} {items : Array Value} {x : Value} (hx : items[i]? = some x) : Draw prog w it x (fun h => h.IsListIter it l i ∧ h.IsList l items) (fun h => h.IsListIter it l (i + 1)) :=
  fun A s Q E hc hQ => wpAny_nextOf_list_item hc.1 hc.2 hx fun h' a b => hQ h' a b
theorem draw_tuple {it t : Addr} {i : Nat} {items : Array Value} {x : Value} (hx : items[i]? = some x) : Draw prog w it x (fun h => h.IsTupleIter it t i ∧ h.IsTuple t items) (fun h => h.IsTupleIter it t (i + 1)) := by
  intro A s Q E hc hQ
  obtain ⟨hit, ht⟩ := hc
  obtain ⟨o, ho, hc, hd⟩ := id hit
  obtain ⟨ol, hol, _, nl, hdl⟩ := ht
  unfold nextOf
  refine wpAny_bind (wpAny_callSpecial?_slot (name := Str.ofString "__next__") hit.typeIs F.slot_tuple_iterator_next (wpAny_call_entry F.slot_tuple_iterator_next hit.typeIs F.entry_tuple_iterator_next ?_ (F.args_tuple_iterator_next_1 _)))
  show wpAny _ _ (field (.ref it) 0 >>= _) _ _ s
  refine wpAny_bind (wpAny_field ho hd (x := .ref t) rfl ?_)
  show wpAny _ _ (if (Value.ref t == Value.none) = true then _ else _) _ _ s
  rw [if_neg (show ¬ ((Value.ref t == Value.none) = true) from Bool.false_ne_true)]
  show wpAny _ _ (field (.ref it) 1 >>= _) _ _ s
  refine wpAny_bind (wpAny_field ho hd (x := .int i 0) rfl ?_)
  show wpAny _ _ (seqItems? (.ref t) >>= _) _ _ s
  refine wpAny_bind (wpAny_seqItems hol hdl ?_)
  simp only [Int.toNat_natCast, hx]
  refine wpAny_bind (wpAny_setField ho hd (by simp) (wpAny_pure ⟨x, rfl, wpAny_pure (hQ _ ?_ (Heap.SameBut.update ..))⟩))
  exact ⟨_, Heap.get?_update_self _ ho (Obj.isFreed_of_fields (Obj.data_mapFields hd _)), (Obj.cls_mapFields ..).trans hc, by
    rw [Obj.data_mapFields hd]; simp [rawInt]⟩
theorem end_tuple {it t : Addr} {i : Nat} {items : Array Value} (hx : items[i]? = none) : DrawEnd prog w it (fun h => h.IsTupleIter it t i ∧ h.IsTuple t items) := by
  intro A s Q E hh hc hE
  obtain ⟨hit, ht⟩ := hc
  obtain ⟨o, ho, hc, hd⟩ := id hit
  obtain ⟨ol, hol, _, nl, hdl⟩ := ht
  unfold nextOf
  refine wpAny_bind (wpAny_callSpecial?_slot (name := Str.ofString "__next__") hit.typeIs F.slot_tuple_iterator_next (wpAny_call_entry F.slot_tuple_iterator_next hit.typeIs F.entry_tuple_iterator_next ?_ (F.args_tuple_iterator_next_1 _)))
  show wpAny _ _ (field (.ref it) 0 >>= _) _ _ s
  refine wpAny_bind (wpAny_field ho hd (x := .ref t) rfl ?_)
  show wpAny _ _ (if (Value.ref t == Value.none) = true then _ else _) _ _ s
  rw [if_neg (show ¬ ((Value.ref t == Value.none) = true) from Bool.false_ne_true)]
  show wpAny _ _ (field (.ref it) 1 >>= _) _ _ s
  refine wpAny_bind (wpAny_field ho hd (x := .int i 0) rfl ?_)
  show wpAny _ _ (seqItems? (.ref t) >>= _) _ _ s
  refine wpAny_bind (wpAny_seqItems hol hdl ?_)
  simp only [Int.toNat_natCast, hx]
  refine wpAny_bind (wpAny_rule (wpAny_bind (wpAny_setField ho hd (by simp) ?_)))
  show wpAny _ _ (newExc (.type "StopIteration") [] >>= _) _ _ _
  refine wpAny_bind ?_
  simp only [newExc, newTuple]
  refine wpAny_bind (wpAny_newObj_type ?_ (by size_fits))
  refine wpAny_bind (m := firstArgMember _ _) (wpAny_of_eq (a := Value.none) (by first | rfl | (simp only [firstArgMember]; rfl)) ?_)
  refine wpAny_newObj_type ?_ (by size_fits)
  simp only [raiseNew]
  refine wpAny_bind (wpAny_handled ?_)
  first | rw [show A.in1.handled = none from hh] | rw [hh]
  refine wpAny_bind (wpAny_pure (wpAny_throw ?_))
  exact hE _ _ (((Heap.SameBut.update ..).extBut.push _).push _) ⟨_, Heap.get?_push_size _ rfl, rfl⟩
structure Apart (z TI TO i1 i2 : Addr) (l1 l2 : List Addr) : Prop where
  TIz : TI ≠ z
  TOz : TO ≠ z
  TITO : TI ≠ TO
  i1z : i1 ≠ z
  i2z : i2 ≠ z
  i1TI : i1 ≠ TI
  i2TI : i2 ≠ TI
  i1TO : i1 ≠ TO
  i2TO : i2 ≠ TO
  i12 : i1 ≠ i2
  in1 : i1 ∈ l1
  in2 : i2 ∈ l2
  no1 : ∀ c ∈ l1, c ≠ z ∧ c ≠ TI ∧ c ≠ TO ∧ c ≠ i2
  no2 : ∀ c ∈ l2, c ≠ z ∧ c ≠ TI ∧ c ≠ TO ∧ c ≠ i1
section
variable {z TI TO i1 i2 : Addr} {l1 l2 : List Addr} {x y : Value} {C1 N1 C2 N2 : Heap → Prop}
theorem zip_item {A : Around} {s : Shared} {E : Value → Shared → Prop} {a b : Value} {Q : Value → Shared → Prop} (D : Apart z TI TO i1 i2 l1 l2) (d1 : Draw prog w i1 x C1 N1) (d2 : Draw prog w i2 y C2 N2) (o1 : On l1 N1) (o2 : On l2 N2) (p1 : On l1 C1) (p2 : On l2 C2)
    (hz : IsZip s.heap z TI TO .none) (hTI : IsPair s.heap TI (.ref i1) (.ref i2)) (hTO : IsPair s.heap TO a b) (h1 : C1 s.heap) (h2 : C2 s.heap)
    (hQ : ∀ h', IsZip h' z TI TO (rawInt s.heap.objs.size) → IsPair h' TO x y → N1 h' → N2 h' → IsPair h' s.heap.objs.size x y → h'.objs.size = s.heap.objs.size + 1 →
      (∀ c o, c ≠ z → c ≠ TO → c ≠ i1 → c ≠ i2 → s.heap.get? c = some o → h'.get? c = some o) → Q (.ref s.heap.objs.size) { s with heap := h' }) :
    wpAny (model prog w) A (Builtin.«zip.__next__» ⟨[.ref z], []⟩) (fun fin s' => ∃ v, fin = .done (.ret v) ∧ Q v s') E s := by
  show wpAny _ _ (field (.ref z) 2 >>= _) _ _ _
  refine wpAny_bind (wpAny_field hz rfl (x := .bool false) rfl ?_)
  show wpAny _ _ (field (.ref z) 3 >>= _) _ _ _
  refine wpAny_bind (wpAny_field hz rfl (x := .ref TI) rfl ?_)
  refine wpAny_bind (wpAny_seqItems hTI rfl ?_)
  show wpAny _ _ (Builtin.SmallTypes.ownedTupleIsFree (.ref z) >>= _) _ _ _
  refine wpAny_bind ?_
  unfold Builtin.SmallTypes.ownedTupleIsFree
  refine wpAny_bind (wpAny_field hz rfl (x := .none) rfl (wpAny_pure ?_))
  simp only [if_true]
  refine wpAny_bind (wpAny_rule ?_)
  refine wpAny_bind (wpAny_field hz rfl (x := .ref TO) rfl ?_)
  refine wpAny_bind (wpAny_setField_rec hz (by simp) fun ha za sa => ?_)
  replace za : IsZip ha z TI TO .ellipsis := za
  refine wpAny_bind ?_
  simp only [List.zipIdx_cons, List.zipIdx_nil, List.forIn_cons, List.forIn_nil]
  refine wpAny_bind (wpAny_bind (wpAny_onRaise ?_))
  show wpAny _ _ (nextOf (.ref i1) >>= _) _ _ _
  refine wpAny_bind (d1 _ _ _ _ (p1 _ _ (fun c hc o e => sa.extBut c o (D.no1 c hc).1 e) h1) fun hb nb sb => wpAny_pure ?_)
  have Tb : IsPair hb TO a b := sb.extBut _ _ D.i1TO.symm (sa.extBut _ _ D.TOz hTO)
  refine wpAny_bind (wpAny_seqItems Tb rfl ?_)
  refine wpAny_bind (wpAny_updateSeq_pair Tb fun hc Tc sc => ?_)
  replace Tc : IsPair hc TO x b := Tc
  refine wpAny_bind (wpAny_letGo (wpAny_pure ?_))
  refine wpAny_bind (wpAny_bind (wpAny_onRaise ?_))
  show wpAny _ _ (nextOf (.ref i2) >>= _) _ _ _
  have k3 : ∀ c o, c ≠ z → c ≠ i1 → c ≠ TO → s.heap.get? c = some o → hc.get? c = some o := fun c o c1 c2 c3 e => sc.extBut c o c3 (sb.extBut c o c2 (sa.extBut c o c1 e))
  refine wpAny_bind (d2 _ _ _ _ (p2 _ _ (fun c hc o e => k3 c o (D.no2 c hc).1 (D.no2 c hc).2.2.2 (D.no2 c hc).2.2.1 e) h2) fun hd nd sd => wpAny_pure ?_)
  have Td : IsPair hd TO x b := sd.extBut _ _ D.i2TO.symm Tc
  refine wpAny_bind (wpAny_seqItems Td rfl ?_)
  refine wpAny_bind (wpAny_updateSeq_pair Td fun he Te se => ?_)
  replace Te : IsPair he TO x y := Te
  refine wpAny_bind (wpAny_letGo (wpAny_pure (wpAny_pure ?_)))
  refine wpAny_bind (wpAny_seqItems Te rfl ?_)
  refine wpAny_bind (wpAny_newTuple ?_)
  have hsz : he.objs.size = s.heap.objs.size := by rw [se.1, sd.1, sc.1, sb.1, sa.1]
  have ze : IsZip he z TI TO .ellipsis := se.extBut _ _ D.TOz.symm (sd.extBut _ _ D.i2z.symm (sc.extBut _ _ D.TOz.symm (sb.extBut _ _ D.i1z.symm za)))
  have k5 : ∀ c o, c ≠ z → c ≠ TO → c ≠ i1 → c ≠ i2 → s.heap.get? c = some o → he.get? c = some o := fun c o c1 c2 c3 c4 e => se.extBut c o c2 (sd.extBut c o c4 (k3 c o c1 c3 c2 e))
  have n1 : N1 he := o1 _ _ (fun c hc o e => se.extBut c o (D.no1 c hc).2.2.1 (sd.extBut c o (D.no1 c hc).2.2.2 (sc.extBut c o (D.no1 c hc).2.2.1 e))) nb
  have n2 : N2 he := o2 _ _ (fun c hc o e => se.extBut c o (D.no2 c hc).2.2.1 e) nd
  have zlt : z < he.objs.size := Heap.lt_size ze
  have Tlt : TO < he.objs.size := Heap.lt_size Te
  show wpAny _ _ (Builtin.SmallTypes.ownedTupleHandOut (.ref z) (.ref he.objs.size) >>= _) _ _ _
  refine wpAny_bind ?_
  unfold Builtin.SmallTypes.ownedTupleHandOut
  have zf : IsZip (he.push { cls := .type "tuple", data := .seq #[x, y] }) z TI TO .ellipsis := Heap.get?_push_of_some _ ze
  refine wpAny_bind (wpAny_setField_rec zf (by simp) fun hg zg sg => ?_)
  replace zg : IsZip hg z TI TO (rawInt he.objs.size) := zg
  refine wpAny_setField_rec zg (by simp) fun hh zh sh => ?_
  replace zh : IsZip hh z TI TO (rawInt he.objs.size) := zh
  have up : ∀ c o, c ≠ z → he.get? c = some o → hh.get? c = some o := fun c o c1 e => sh.extBut _ _ c1 (sg.extBut _ _ c1 (Heap.get?_push_of_some _ e))
  have Th : IsPair hh he.objs.size x y := sh.extBut _ _ (Nat.ne_of_gt zlt) (sg.extBut _ _ (Nat.ne_of_gt zlt) (Heap.get?_push_size _ rfl))
  have z8 : hh.objs.size = he.objs.size + 1 := by rw [sh.1, sg.1, Heap.size_push]
  rw [hsz] at zh Th z8
  refine wpAny_pure ⟨_, rfl, ?_⟩
  show Q (.ref he.objs.size) _
  rw [hsz]
  exact hQ hh zh (up _ _ D.TOz Te) (o1 _ _ (fun c hc o e => up c o (D.no1 c hc).1 e) n1) (o2 _ _ (fun c hc o e => up c o (D.no2 c hc).1 e) n2) Th z8 fun c o c1 c2 c3 c4 e => up c o c1 (k5 c o c1 c2 c3 c4 e)
theorem zip_end {A : Around} {s : Shared} {E : Value → Shared → Prop} {a b : Value} {Q : PySem.Fin → Shared → Prop} (hh : A.handled = none) (D : Apart z TI TO i1 i2 l1 l2) (d1 : DrawEnd prog w i1 C1) (p1 : On l1 C1)
    (hz : IsZip s.heap z TI TO .none) (hTI : IsPair s.heap TI (.ref i1) (.ref i2)) (hTO : IsPair s.heap TO a b) (h1 : C1 s.heap)
    (hE : ∀ h' e, (∀ c o, c ≠ z → c ≠ i1 → s.heap.get? c = some o → h'.get? c = some o) → (∃ o, h'.get? e = some o ∧ o.cls = .type "StopIteration") → E (.ref e) { s with heap := h' }) :
    wpAny (model prog w) A (Builtin.«zip.__next__» ⟨[.ref z], []⟩) Q E s := by
  show wpAny _ _ (field (.ref z) 2 >>= _) _ _ _
  refine wpAny_bind (wpAny_field hz rfl (x := .bool false) rfl ?_)
  show wpAny _ _ (field (.ref z) 3 >>= _) _ _ _
  refine wpAny_bind (wpAny_field hz rfl (x := .ref TI) rfl ?_)
  refine wpAny_bind (wpAny_seqItems hTI rfl ?_)
  show wpAny _ _ (Builtin.SmallTypes.ownedTupleIsFree (.ref z) >>= _) _ _ _
  refine wpAny_bind ?_
  unfold Builtin.SmallTypes.ownedTupleIsFree
  refine wpAny_bind (wpAny_field hz rfl (x := .none) rfl (wpAny_pure ?_))
  simp only [if_true]
  refine wpAny_bind (wpAny_rule ?_)
  refine wpAny_bind (wpAny_field hz rfl (x := .ref TO) rfl ?_)
  refine wpAny_bind (wpAny_setField_rec hz (by simp) fun ha za sa => ?_)
  replace za : IsZip ha z TI TO .ellipsis := za
  refine wpAny_bind ?_
  simp only [List.zipIdx_cons, List.zipIdx_nil, List.forIn_cons, List.forIn_nil]
  refine wpAny_bind (wpAny_bind (wpAny_onRaise ?_))
  show wpAny _ _ (nextOf (.ref i1) >>= _) _ _ _
  refine wpAny_bind (d1 _ _ _ _ hh (p1 _ _ (fun c hc o e => sa.extBut c o (D.no1 c hc).1 e) h1) fun hb e sb he => ?_)
  obtain ⟨oe, hoe, hce⟩ := he
  have zb : IsZip hb z TI TO .ellipsis := sb _ _ D.i1z.symm za
  have hez : e ≠ z := fun x => by subst x; rw [zb] at hoe; cases hoe; simp at hce
  exact wpAny_setField_rec zb (by simp) fun hc _ sc => hE hc e (fun c o c1 c3 x => sc.extBut _ _ c1 (sb _ _ c3 (sa.extBut _ _ c1 x))) ⟨oe, sc.extBut _ _ hez hoe, hce⟩
end
end
end L2
set_option Elab.async false
set_option linter.all false
set_option maxRecDepth 100000
namespace L2
open PySem PySem.Spec PyProof.Rows
section
variable {X : Cx} {pins : List (Addr × Obj)} {σ : St} {H : Hp} {s : Shared} {h' : Heap}
theorem Inv.turnedL {t' : Nat} {ch : List Addr} (I : Inv X pins σ H s) (k : ∀ b o, b ∉ ch → s.heap.get? b = some o → h'.get? b = some o) (hf : ∀ b ∈ ch, FpOk X pins H b) : Inv X pins σ H { s with heap := h', toks := t' } := by
  have nit : ∀ b u, H b = some u → b ∉ ch := fun b u e z => by rw [(hf b z).1] at e; cases e
  refine I.step (g' := s.gens) (d' := s.drawn) (ch := ch) (fun b hb => ?_) (fun b o _ _ hc e _ => k b o hc e) (fun b o _ _ hc e _ => ⟨o.slots, k b o hc e⟩) (fun _ _ _ _ n => n)
    (fun b o hc e => ⟨o, k b o hc e⟩) (fun _ _ e => e) (fun _ _ _ e => e) (fun b ps e => ⟨#[], by rw [e]; simp⟩) (fun m hm => ?_) (fun b u e => ?_) I.bare
  · obtain ⟨_, f1, _, f3, f4, f5⟩ := hf b hb
    exact ⟨f3, f1, f4, f5⟩
  · obtain ⟨o, es, ep, ho, r⟩ := hm
    exact ⟨o, es, ep, k _ o (fun z => (hf _ z).2.1 rfl) ho, r⟩
  · refine (I.hok b u e).stay (fun c v hc q => k c v ?_ q) (fun _ q => q) fun _ _ q => q
    rcases hc with z | z
    · rw [z]; exact nit b u e
    · exact nit c _ z
theorem Inv.turnedLaid {t' : Nat} {ch : List Addr} {a : Addr} {o : HO} (I : Inv X pins σ H s) (k : ∀ b o, b ∉ ch → s.heap.get? b = some o → h'.get? b = some o) (hf : ∀ b ∈ ch, FpOk X pins H b) (hp : s.heap.objs.size ≤ a)
    (new : ObjOk X.prog X.w (upd H a o) h' a o) : Inv X pins σ (upd H a o) { s with heap := h', toks := t' } := by
  have nit : ∀ b u, H b = some u → b ∉ ch := fun b u e z => by rw [(hf b z).1] at e; cases e
  have hn : H a = none := I.hok.fresh hp
  refine I.step (g' := s.gens) (d' := s.drawn) (ch := ch) (fun b hb => ?_) (fun b o _ _ hc e _ => k b o hc e) (fun b o _ _ hc e _ => ⟨o.slots, k b o hc e⟩) (fun b u _ q n => by rw [upd_ne (Nat.ne_of_lt (Nat.lt_of_lt_of_le (Heap.lt_size q) hp))]; exact n)
    (fun b o hc e => ⟨o, k b o hc e⟩) (fun b xs e => by rw [upd_ne (ne_of_none e hn)]; exact e) (fun b _ _ e => by rw [upd_ne (ne_of_none e hn)]; exact e) (fun b ps e => ⟨#[], by rw [upd_ne (ne_of_none e hn), e]; simp⟩) (fun m hm => ?_) (fun b u e => ?_) I.bare
  · obtain ⟨_, f1, _, f3, f4, f5⟩ := hf b hb
    exact ⟨f3, f1, f4, f5⟩
  · obtain ⟨o, es, ep, ho, r⟩ := hm
    exact ⟨o, es, ep, k _ o (fun z => (hf _ z).2.1 rfl) ho, r⟩
  · by_cases hb : b = a
    · subst hb
      rw [upd_same] at e
      cases e
      exact new
    · rw [upd_ne hb] at e
      refine (I.hok b u e).stay (fun c v hc q => k c v ?_ q) (fun c q => ?_) fun c xs q => ?_
      · rcases hc with z | z
        · rw [z]; exact nit b u e
        · exact nit c _ z
      · rw [upd_ne (ne_of_none q hn)]; exact q
      · rw [upd_ne (ne_of_none q hn)]; exact q
end
def Itz (K : PySem.W.Frag) (a b : Addr) : It :=
  ⟨fun i H => ∃ xs ys x y, SqT K H a xs ∧ SqL K H b ys ∧ xs[i]? = some x ∧ ys[i]? = some y,
   fun i H v H' => ∃ p x y, v = .ref p ∧ H p = none ∧ H' = upd H p (.tup [x, y]) ∧ (∀ xs, SqT K H a xs → xs[i]? = some x) ∧ ∀ ys, SqL K H b ys → ys[i]? = some y,
   fun i H => ∃ xs ys, SqT K H a xs ∧ SqL K H b ys ∧ xs.length ≤ i⟩
def ZipSt (z TI TO i1 i2 a b : Addr) (i : Nat) (h : Heap) : Prop := IsZip h z TI TO .none ∧ IsPair h TI (.ref i1) (.ref i2) ∧ (∃ x y, IsPair h TO x y) ∧ h.IsTupleIter i1 a i ∧ h.IsListIter i2 b i
theorem turn_zip {P : Program} {w : World} {K : PySem.W.Frag} {elts : List Expr} {x1} {tp : Pos} {z TI TO i1 i2 a b : Addr} (D : Apart z TI TO i1 i2 [i1, a] [i2, b]) :
    Turn P w K (.Tuple elts x1 tp) (Itz K a b) [z, TI, TO, i1, i2] z (ZipSt z TI TO i1 i2 a b) where
  mem := by simp
  obj := fun i h st c hc => by
    obtain ⟨hz, hTI, ⟨x, y, hTO⟩, ⟨o1, e1, c1, d1⟩, ⟨o2, e2, c2, d2⟩⟩ := st
    simp only [List.mem_cons, List.not_mem_nil, or_false] at hc
    rcases hc with rfl | rfl | rfl | rfl | rfl
    · exact ⟨_, hz, fun v q => by cases q⟩
    · exact ⟨_, hTI, fun v q => by cases q⟩
    · exact ⟨_, hTO, fun v q => by cases q⟩
    · exact ⟨o1, e1, fun v q => by rw [d1] at q; cases q⟩
    · exact ⟨o2, e2, fun v q => by rw [d2] at q; cases q⟩
  keep := fun i h h' st k => by
    obtain ⟨hz, hTI, ⟨x, y, hTO⟩, h1, h2⟩ := st
    exact ⟨k z (by simp) _ hz, k TI (by simp) _ hTI, ⟨x, y, k TO (by simp) _ hTO⟩, h1.at fun o e => k i1 (by simp) o e, h2.at fun o e => k i2 (by simp) o e⟩
  item := by
    intro X hP hw hK hc i pins s σ H E I hf st hg
    subst hP hw hK
    obtain ⟨xs, ys, x, y, hxs, hys, hx, hy⟩ := hg
    obtain ⟨its, rv, p, hz1⟩ := I.tuple hxs
    obtain ⟨jts, rw', q, hz2⟩ := I.list hys
    obtain ⟨u, hu, ru⟩ := rv.get hx
    obtain ⟨v, hv, rv'⟩ := rw'.get hy
    obtain ⟨hz, hTI, ⟨a0, b0, hTO⟩, h1, h2⟩ := st
    have hT : s.TypeIs (.ref z) "zip" := ⟨_, hz, rfl⟩
    have d1 : Draw X.prog X.w i1 u (fun h => h.IsTupleIter i1 a i ∧ h.IsTuple a its.toArray) (fun h => h.IsTupleIter i1 a (i + 1)) := draw_tuple (by simpa using hu)
    have d2 : Draw X.prog X.w i2 v (fun h => h.IsListIter i2 b i ∧ h.IsList b jts.toArray) (fun h => h.IsListIter i2 b (i + 1)) := draw_list (by simpa using hv)
    have o1 : On [i1, a] (fun h => h.IsTupleIter i1 a (i + 1)) := fun h h' k st => st.at fun o e => k i1 (by simp) o e
    have o2 : On [i2, b] (fun h => h.IsListIter i2 b (i + 1)) := fun h h' k st => st.at fun o e => k i2 (by simp) o e
    have p1 : On [i1, a] (fun h => h.IsTupleIter i1 a i ∧ h.IsTuple a its.toArray) := fun h h' k st => ⟨st.1.at fun o e => k i1 (by simp) o e, let ⟨o, ho, r⟩ := st.2; ⟨o, k a (by simp) o ho, r⟩⟩
    have p2 : On [i2, b] (fun h => h.IsListIter i2 b i ∧ h.IsList b jts.toArray) := fun h h' k st => ⟨st.1.at fun o e => k i2 (by simp) o e, let ⟨o, ho, r⟩ := st.2; ⟨o, k b (by simp) o ho, r⟩⟩
    unfold pyNext
    refine wpAny_bind (wpAny_attempt (wpAny_callSpecial?_slot (name := Str.ofString "__next__") hT F.slot_zip_next (wpAny_call_entry F.slot_zip_next hT F.entry_zip_next
      (zip_item D d1 d2 o1 o2 p1 p2 hz hTI hTO ⟨h1, p⟩ ⟨h2, q.isList⟩ fun hh g1 g2 g3 g4 g5 g6 g7 => wpAny_pure ⟨_, rfl, ?_⟩) (F.args_zip_next_1 _))))
    refine wpAny_letOwnedTupleGo_zip g1 fun hk zk sk => ?_
    have lt : ∀ {c o}, s.heap.get? c = some o → c ≠ s.heap.objs.size := fun e => Nat.ne_of_lt (Heap.lt_size e)
    have kk : ∀ c o, c ∉ [z, TI, TO, i1, i2] → s.heap.get? c = some o → hk.get? c = some o := fun c o hc e => by
      simp only [List.mem_cons, List.not_mem_nil, or_false, not_or] at hc
      exact sk.extBut _ _ hc.1 (g7 c o hc.1 hc.2.2.1 hc.2.2.2.1 hc.2.2.2.2 e)
    have Tk : IsPair hk s.heap.objs.size u v := sk.extBut _ _ (Ne.symm (lt hz)) g5
    have fresh : H s.heap.objs.size = none := I.hok.fresh (Nat.le_refl _)
    have I1 : Inv X pins σ (upd H s.heap.objs.size (.tup [x, y])) { s with heap := hk } := I.turnedLaid (t' := s.toks) (ch := [z, TI, TO, i1, i2]) kk hf (Nat.le_refl _) ⟨le_line (by show 2 ≤ _; decide), [u, v], .cons ru (.cons rv' .nil), ⟨_, Tk, rfl, 0, rfl⟩⟩
    have TIk : IsPair hk TI (.ref i1) (.ref i2) := sk.extBut _ _ D.TIz (g7 _ _ D.TIz D.TITO D.i1TI.symm D.i2TI.symm hTI)
    refine ⟨.ref s.heap.objs.size, _, I1, rfl, ⟨s.heap.objs.size, x, y, rfl, fresh, rfl, fun xs' h' => ?_, fun ys' h' => ?_⟩, ⟨zk, TIk, ⟨u, v, sk.extBut _ _ D.TOz g2⟩, g3.at fun o e => sk.extBut _ o D.i1z e, g4.at fun o e => sk.extBut _ o D.i2z e⟩, fun c hc => ?_⟩
    · rw [I.tuple_inj h' hxs]; exact hx
    · rw [I.list_inj h' hys]; exact hy
    · have hcs : c ≠ s.heap.objs.size := by
        simp only [List.mem_cons, List.not_mem_nil, or_false] at hc
        obtain ⟨o1, e1, _⟩ := id h1
        obtain ⟨o2, e2, _⟩ := id h2
        rcases hc with rfl | rfl | rfl | rfl | rfl
        · exact lt hz
        · exact lt hTI
        · exact lt hTO
        · exact lt e1
        · exact lt e2
      rw [upd_ne hcs]
      exact (hf c hc).1
  done := by
    intro X hP hw hK hc i pins s σ H E I hf st hg
    subst hP hw hK
    obtain ⟨xs, ys, hxs, hys, hx⟩ := hg
    obtain ⟨its, rv, p, hz1⟩ := I.tuple hxs
    have hl := rv.length
    obtain ⟨hz, hTI, ⟨a0, b0, hTO⟩, h1, h2⟩ := st
    have hT : s.TypeIs (.ref z) "zip" := ⟨_, hz, rfl⟩
    have d1 : DrawEnd X.prog X.w i1 (fun h => h.IsTupleIter i1 a i ∧ h.IsTuple a its.toArray) := end_tuple (by simp; omega)
    have p1 : On [i1, a] (fun h => h.IsTupleIter i1 a i ∧ h.IsTuple a its.toArray) := fun h h' k st => ⟨st.1.at fun o e => k i1 (by simp) o e, let ⟨o, ho, r⟩ := st.2; ⟨o, k a (by simp) o ho, r⟩⟩
    unfold pyNext
    refine wpAny_bind (wpAny_attempt (wpAny_callSpecial?_slot (name := Str.ofString "__next__") hT F.slot_zip_next
      (wpAny_call_entry F.slot_zip_next hT F.entry_zip_next (zip_end (I.ok.hd hc) D d1 p1 hz hTI hTO ⟨h1, p⟩ fun h' e hk he => ?_) (F.args_zip_next_1 _))))
    obtain ⟨o, ho, hcl⟩ := he
    refine wpAny_bind (wpAny_isInstance (T := "StopIteration") (b := true) ⟨o, ho, hcl⟩ isSubtype_stop ?_)
    refine wpAny_pure ⟨rfl, I.turnedL (t' := s.toks) (ch := [z, TI, TO, i1, i2]) (fun c o hc e => ?_) hf⟩
    simp only [List.mem_cons, List.not_mem_nil, or_false, not_or] at hc
    exact hk c o hc.1 hc.2.2.2.1 e
  self := fun _ _ _ _ _ st h => wpAny_pyIter_zip st.1 h
abbrev zA (h : Heap) (a : Addr) : Heap := h.push { cls := .type "tuple_iterator", data := .fields #[.ref a, .int 0 0] }
abbrev zB (h : Heap) (a b : Addr) : Heap := (zA h a).push { cls := .type "list_iterator", data := .fields #[.ref b, .int 0 0] }
abbrev zC (h : Heap) (a b : Addr) : Heap := (zB h a b).push { cls := .type "tuple", data := .seq #[.ref h.objs.size, .ref (zA h a).objs.size] }
abbrev zD (h : Heap) (a b : Addr) : Heap := (zC h a b).push { cls := .type "tuple", data := .seq #[.none, .none] }
abbrev zE (h : Heap) (a b : Addr) : Heap := (zD h a b).push { cls := .type "zip", data := .fields #[.none, .bool false, .bool false, .ref (zB h a b).objs.size, .ref (zC h a b).objs.size] }
theorem meets_zipTL (a b : Addr) (xs ys : Array Value) :
    Meets (Builtin.«zip.__new__» ⟨[.type "zip", .ref a, .ref b], []⟩) (fun _ R s => s.heap.IsTuple a xs ∧ s.heap.IsList b ys ∧ R (.ok (.ret (.ref (zD s.heap a b).objs.size))) { s with heap := zE s.heap a b }) :=
  .of_wp fun prog w A R s h => by
    obtain ⟨hp, g, d, tk, os⟩ := s
    obtain ⟨hl1, hl2, h⟩ := h
    have hsub := sub_zip
    have hL1 : Heap.IsTuple (Shared.heap ⟨hp, g, d, tk, os⟩) a xs := hl1
    have hL2 : Heap.IsList (Shared.heap ⟨hp.push { cls := .type "tuple_iterator", data := .fields #[.ref a, .int 0 0] }, g, d, tk, os⟩) b ys := Heap.IsList.push hl2 _
    wp_walk using wpAny_pyIter_tuple hL1, wpAny_pyIter_list hL2
    exact ⟨_, rfl, h⟩
theorem call_zipTL {prog : Program} {w : World} {A : Around} {E : Value → Shared → Prop} {s : Shared} {a b : Addr} {xs ys : Array Value} {Q : Value → Shared → Prop} (hl1 : s.heap.IsTuple a xs) (hl2 : s.heap.IsList b ys)
    (h : ∀ h', IsZip h' (s.heap.objs.size + 4) (s.heap.objs.size + 2) (s.heap.objs.size + 3) .none → IsPair h' (s.heap.objs.size + 2) (.ref s.heap.objs.size) (.ref (s.heap.objs.size + 1)) →
      IsPair h' (s.heap.objs.size + 3) .none .none → h'.IsTupleIter s.heap.objs.size a 0 → h'.IsListIter (s.heap.objs.size + 1) b 0 → (∀ c o, s.heap.get? c = some o → h'.get? c = some o) → Q (.ref (s.heap.objs.size + 4)) { s with heap := h' }) :
    wpAny (model prog w) A (call (.type "zip") [.ref a, .ref b]) Q E s := by
  refine callType_new F.called_zip (by decide) (F.typeCall_zip_2 _ _) (F.newCall_zip_2 _ _) (fun obj => F.args_object_init_3 obj _ _) F.entry_zip_new (meets_zipTL a b xs ys) ⟨hl1, hl2, ?_⟩
  have z1 : (zA s.heap a).objs.size = s.heap.objs.size + 1 := Heap.size_push ..
  have z2 : (zB s.heap a b).objs.size = s.heap.objs.size + 2 := by rw [Heap.size_push, z1]
  have z3 : (zC s.heap a b).objs.size = s.heap.objs.size + 3 := by rw [Heap.size_push, z2]
  have z4 : (zD s.heap a b).objs.size = s.heap.objs.size + 4 := by rw [Heap.size_push, z3]
  have g5 : (zE s.heap a b).get? (zD s.heap a b).objs.size = some _ := Heap.get?_push_size _ rfl
  have g4 : (zE s.heap a b).get? (zC s.heap a b).objs.size = some _ := Heap.get?_push_of_some _ (Heap.get?_push_size _ rfl)
  have g3 : (zE s.heap a b).get? (zB s.heap a b).objs.size = some _ := Heap.get?_push_of_some _ (Heap.get?_push_of_some _ (Heap.get?_push_size _ rfl))
  have g2 : (zE s.heap a b).get? (zA s.heap a).objs.size = some _ := Heap.get?_push_of_some _ (Heap.get?_push_of_some _ (Heap.get?_push_of_some _ (Heap.get?_push_size _ rfl)))
  have g1 : (zE s.heap a b).get? s.heap.objs.size = some _ := Heap.get?_push_of_some _ (Heap.get?_push_of_some _ (Heap.get?_push_of_some _ (Heap.get?_push_of_some _ (Heap.get?_push_size _ rfl))))
  show _ ∧ _
  rw [z2, z3, z4] at g5
  rw [z1, z2] at g3
  rw [z3] at g4
  rw [z1] at g2
  rw [z4]
  exact ⟨⟨_, g5, rfl⟩, h _ g5 g3 g4 ⟨_, g1, rfl, rfl⟩ ⟨_, g2, rfl, rfl⟩ fun c o x => Heap.get?_push_of_some _ (Heap.get?_push_of_some _ (Heap.get?_push_of_some _ (Heap.get?_push_of_some _ (Heap.get?_push_of_some _ x))))⟩
theorem apart_new (n a b : Nat) (ha : a < n) (hb : b < n) : Apart (n + 4) (n + 2) (n + 3) n (n + 1) [n, a] [n + 1, b] := by
  have f : ∀ {x y : Nat}, x < y ∨ y < x → (x : Addr) ≠ y := fun h e => by
    cases h with
    | inl h => exact absurd (e ▸ h) (Nat.lt_irrefl _)
    | inr h => exact absurd (e ▸ h) (Nat.lt_irrefl _)
  refine ⟨f (by omega), f (by omega), f (by omega), f (by omega), f (by omega), f (by omega), f (by omega), f (by omega), f (by omega), f (by omega), List.mem_cons_self, List.mem_cons_self, fun c hc => ?_, fun c hc => ?_⟩
  all_goals
    rcases List.mem_cons.mp hc with e | hc
    · subst e
      exact ⟨f (by omega), f (by omega), f (by omega), f (by omega)⟩
    · have e := List.mem_singleton.mp hc
      subst e
      exact ⟨f (by omega), f (by omega), f (by omega), f (by omega)⟩
section
variable {X : Cx} {elts : List Expr} {x1 : Nat} {tp : Pos}
def iZip (K : PySem.W.Frag) (ta : TA) : TI := fun σ H R => ta σ H fun vs H1 => ∃ a b, vs = [.ref a, .ref b] ∧ (∃ xs, SqT K H1 a xs) ∧ (∃ ys, SqL K H1 b ys) ∧ R (Itz K a b) H1
theorem pi_zip {a b : Expr} {ta : TA} {p pos : Pos} (hg : Gl X "zip") (hm : X.mg "zip" = none) (ha : PA X [a, b] ta) (hs : starEach [a, b] X.env = [(false, eval a X.env), (false, eval b X.env)] := by rfl) (hs2 : starEach [b] X.env = [(false, eval b X.env)] := by rfl) :
    PI X (.Tuple elts x1 tp) (.Call (.Name "zip" p) [a, b] [] pos) (iZip X.K ta) := by
  intro pins s σ H R I h
  refine Call_ (ld_blt I hg hm boot_zip (PyProof.Rows.callWith_type1 (thn (ha pos pins s σ H _ I h) fun us s1 ⟨vs, H1, I1, r1, q1⟩ => ?_) (by rw [hs, hs2]) (by rw [hs2]; rfl)))
  obtain ⟨l1, l2, e, ⟨xs, hxs⟩, ⟨ys, hys⟩, q⟩ := q1
  subst e
  obtain ⟨u, v, rfl, ru, rv⟩ := vals2 r1
  cases ru
  cases rv
  obtain ⟨its, rx, pt, _⟩ := I1.tuple hxs
  obtain ⟨jts, ry, pl, _⟩ := I1.list hys
  have lt1 : l1 < s1.heap.objs.size := by obtain ⟨o, e, _⟩ := pt; exact Heap.lt_size e
  have lt2 : l2 < s1.heap.objs.size := by obtain ⟨o, e, _⟩ := pl.isList; exact Heap.lt_size e
  refine call_zipTL pt pl.isList fun h' g1 g2 g3 g4 g5 kk => ?_
  refine wpAny_pyIter_zip g1 ?_
  refine ⟨s1.heap.objs.size + 4, [s1.heap.objs.size + 4, s1.heap.objs.size + 2, s1.heap.objs.size + 3, s1.heap.objs.size, s1.heap.objs.size + 1], _, _, H1, rfl, I1.kept (t' := s1.toks) kk, turn_zip (a := l1) (b := l2) ?_, ⟨g1, g2, ⟨_, _, g3⟩, g4, g5⟩, fun b hb => ?_, q⟩
  · exact apart_new _ _ _ lt1 lt2
  · have hle : s1.heap.objs.size ≤ b := by
      simp only [List.mem_cons, List.not_mem_nil, or_false] at hb
      rcases hb with e | e | e | e | e <;> rw [e]
      · exact Nat.le_add_right _ 4
      · exact Nat.le_add_right _ 2
      · exact Nat.le_add_right _ 3
      · exact Nat.le_refl _
      · exact Nat.le_add_right _ 1
    exact I1.fpOk hle (I1.hok.fresh hle)
end
end L2
set_option Elab.async false
set_option linter.all false
set_option maxRecDepth 100000
namespace L2
open PySem PySem.Spec PyProof.Rows
structure CompScG (X : Cx) (scope : Scope) (xs : List Str) (fr : List Str) (ix : List Nat) : Prop where
  kind : scope.kind = .function
  names : ∀ y ∈ scope.names, y.2 = .local → scope.names.lookup y.1 = some .local
  uniq : (scope.names.map (·.1)).Nodup
  clo : ∀ y ∈ scope.names, y.2 = .free → X.env.kindOf y.1 = some .cell ∨ X.env.kindOf y.1 = some .free
  free : ∀ (k : Nat) (y : Str), fr[k]? = some y → ∃ j, ix[k]? = some j ∧ X.N[j]? = some y ∧ scope.names.lookup y = some .free
  nd : (xs ++ fr).Nodup
  len : fr.length = ix.length
def subG (σ : St) (ix : List Nat) (oxs : List (Option V)) : St := oxs ++ ix.map fun j => (σ[j]?).getD none
def compChkG (sx : Scope) (NX : List Str) (scope : Scope) (xs fr : List Str) (ix : List Nat) : Bool :=
  (scope.kind == .function) && scope.names.all (fun y => y.2 != .local || scope.names.lookup y.1 == some .local) && decide ((scope.names.map (·.1)).Nodup) &&
  scope.names.all (fun y => y.2 != .free || (sx.names.lookup y.1 == some .cell || sx.names.lookup y.1 == some .free)) &&
  decide (fr.length = ix.length) && decide ((xs ++ fr).Nodup) && (fr.zip ix).all fun p => NX[p.2]? == some p.1 && scope.names.lookup p.1 == some .free
theorem CompScG.of {X : Cx} {scope sx : Scope} {NX : List Str} {xs fr : List Str} {ix : List Nat} (hs : X.env.scope = sx) (hN : X.N = NX) (h : compChkG sx NX scope xs fr ix = true) : CompScG X scope xs fr ix := by
  simp only [compChkG, Bool.and_eq_true, decide_eq_true_eq, beq_iff_eq, List.all_eq_true, Bool.or_eq_true, bne_iff_ne, ne_eq] at h
  obtain ⟨⟨⟨⟨⟨⟨h1, h2⟩, h3⟩, h5⟩, h6⟩, h7⟩, h8⟩ := h
  refine ⟨h1, fun y hy hk => ?_, h3, fun y hy hk => ?_, fun k y e => ?_, h7, h6⟩
  · rcases h2 y hy with q | q
    · exact absurd hk q
    · exact q
  · show X.env.scope.names.lookup y.1 = _ ∨ X.env.scope.names.lookup y.1 = _
    rw [hs]
    rcases h5 y hy with q | q
    · exact absurd hk q
    · exact q
  · have hk : k < ix.length := by rw [← h6]; exact (List.getElem?_eq_some_iff.mp e).1
    have hz : (fr.zip ix)[k]? = some (y, ix[k]) := by
      rw [List.getElem?_zip_eq_some]
      exact ⟨e, List.getElem?_eq_getElem hk⟩
    obtain ⟨a1, a2⟩ := h8 _ (List.mem_of_getElem? hz)
    exact ⟨ix[k], List.getElem?_eq_getElem hk, by rw [hN]; exact a1, a2⟩
section
variable {X : Cx} {pins : List (Addr × Obj)} {σ : St} {H : Hp} {s : Shared} {scope : Scope} {xs : List Str} {fr : List Str} {ix : List Nat} {fp : List Addr}
theorem blk_startG (S : CompScG X scope xs fr ix) (I : Inv X pins σ H s) (hfp : ∀ b ∈ fp, FpOk X pins H b) (hlt : ∀ b ∈ fp, b < s.heap.objs.size) :
    Inv (cxComp X scope (xs ++ fr) (s.heap.push listO).objs.size (cellsFrom ((s.heap.push listO).push dictO).objs.size scope.names (clos X.env scope.names [])) s H fp pins) [] (subG σ ix (List.replicate xs.length none)) H
      { s with heap := pushCells ((s.heap.push listO).push dictO) scope.names } := by
  have clo' : ∀ y ∈ scope.names, y.2 = .free → ∃ c, X.env.cells.lookup y.1 = some c := fun y hy hk => I.ok.has y.1 (S.clo y hy hk)
  have clook : ∀ y c, (clos X.env scope.names []).lookup y = some c → X.env.cells.lookup y = some c := clos_look scope.names [] clo' fun y c e => by simp at e
  have chas : ∀ y, (y, NameKind.free) ∈ scope.names → ∃ c, (clos X.env scope.names []).lookup y = some c := fun y hy => clos_has scope.names [] y (.inl hy)
  have cb : ∀ y c, (clos X.env scope.names []).lookup y = some c → c < s.heap.objs.size := fun y c e => by
    obtain ⟨v, q⟩ := I.cell y c (clook y c e)
    exact q.lt
  have z1 : (s.heap.push listO).objs.size = s.heap.objs.size + 1 := Heap.size_push ..
  have z2 : ((s.heap.push listO).push dictO).objs.size = s.heap.objs.size + 2 := by rw [Heap.size_push, z1]
  have up : ∀ b o, s.heap.get? b = some o → (pushCells ((s.heap.push listO).push dictO) scope.names).get? b = some o := fun b o e => pushCells_keeps _ _ b o (Heap.get?_push_of_some _ (Heap.get?_push_of_some _ e))
  have cold : ∀ y c, (cellsFrom ((s.heap.push listO).push dictO).objs.size scope.names (clos X.env scope.names [])).lookup y = some c →
      ((pushCells ((s.heap.push listO).push dictO) scope.names).IsCell c none ∧ s.heap.objs.size + 2 ≤ c ∧ (y, NameKind.cell) ∈ scope.names) ∨ X.env.cells.lookup y = some c := fun y c e => by
    rcases cf_cell scope.names ((s.heap.push listO).push dictO) (clos X.env scope.names []) y c e with ⟨a1, a2, a3⟩ | a
    · rw [z2] at a2
      exact .inl ⟨a1, a2, a3⟩
    · exact .inr (clook y c a)
  have ok : (cxComp X scope (xs ++ fr) (s.heap.push listO).objs.size (cellsFrom ((s.heap.push listO).push dictO).objs.size scope.names (clos X.env scope.names [])) s H fp pins).Ok := by
    refine ⟨I.ok.mod, S.kind, I.ok.glob, I.ok.blt, ?_, ?_, ?_, ?_, I.ok.hd, I.ok.frames, .inl rfl, ?_, I.bs, Nat.le_trans I.ok.bsz I.sz, ?_, ?_, I.stack, I.stkFree⟩
    · show s.heap.objs.size ≤ (s.heap.push listO).objs.size
      rw [z1]
      omega
    · exact cf_inj scope.names _ _ (fun y c e => by rw [z2]; exact Nat.lt_of_lt_of_le (cb y c e) (Nat.le_add_right _ 2)) fun y z c e1 e2 => I.ok.inj y z c (clook y c e1) (clook z c e2)
    · intro y hy
      refine cf_has scope.names _ _ y ?_
      have hy' : (relabel scope X.env).names.lookup y = some .cell ∨ (relabel scope X.env).names.lookup y = some .free := hy
      rcases hy' with hy' | hy'
      · obtain ⟨k', e, ek⟩ := look_back hy'
        by_cases hc : (k' == NameKind.free && X.env.scope.kind == .function && X.env.kindOf y == some .cell) = true
        · rw [Bool.and_eq_true, Bool.and_eq_true] at hc
          have e2 := beq_iff_eq.mp hc.1.1
          subst e2
          exact .inr (chas y (lookup_mem e))
        · rw [if_neg hc] at ek
          subst ek
          exact .inl (lookup_mem e)
      · obtain ⟨k', e, ek⟩ := look_back hy'
        by_cases hc : (k' == NameKind.free && X.env.scope.kind == .function && X.env.kindOf y == some .cell) = true
        · rw [if_pos hc] at ek
          cases ek
        · rw [if_neg hc] at ek
          subst ek
          exact .inr (chas y (lookup_mem e))
    · intro y c hy e
      have hm : (y, NameKind.cell) ∈ scope.names := of_decide_eq_true hy
      have := cf_new scope.names _ _ y c hm e
      show s.heap.objs.size ≤ c
      rw [z2] at this
      omega
    · intro b hb
      have hb' := hlt b hb
      refine ⟨?_, fun y c e => ?_⟩
      · show b ≠ (s.heap.push listO).objs.size
        rw [z1]
        exact Nat.ne_of_lt (Nat.lt_succ_of_lt hb')
      · rcases cold y c e with ⟨_, a2, _⟩ | a
        · exact Nat.ne_of_gt (Nat.lt_of_lt_of_le hb' (Nat.le_trans (Nat.le_add_right _ 2) a2))
        · exact (hfp b hb).2.2.2.2.1 y c a
    · intro b o e hb
      obtain ⟨_, _, _, f3, _⟩ := hfp b hb
      rcases f3 with f3 | f3
      · exact I.ok.noex b o e f3
      · exact absurd (Nat.lt_of_lt_of_le (Heap.lt_size e) (Nat.le_trans I.ok.bsz f3)) (Nat.lt_irrefl _)
    · intro b hb z
      obtain ⟨_, f1, f2, _⟩ := hfp b hb
      rcases List.mem_cons.mp (I.stkSub b z) with e | e
      · exact f1 e
      · exact f2 e
  refine ⟨ok, rfl, I.bare, Un.kept up, ⟨_, (Heap.Ns.new (s.heap.push listO) (.type "dict")).keeps (pushCells_keeps _ _), fun i y v e1 e2 e3 => ?_⟩, fun y c e => ?_, ?_, fun y c e => ?_, fun p hp => ?_, I.hok.kept up, ?_⟩
  · have e2 : (List.replicate xs.length none ++ ix.map fun j => (σ[j]?).getD none)[i]? = some (some v) := e2
    have e1 : (xs ++ fr)[i]? = some y := e1
    by_cases hix : i < xs.length
    · rw [List.getElem?_append_left (by rw [List.length_replicate]; exact hix), List.getElem?_replicate, if_pos hix] at e2
      cases e2
    · obtain ⟨k, rfl⟩ : ∃ k, i = xs.length + k := ⟨i - xs.length, by omega⟩
      have e1' : fr[k]? = some y := by rw [List.getElem?_append_right (by omega), Nat.add_sub_cancel_left] at e1; exact e1
      have e2' : (ix.map fun j => (σ[j]?).getD none)[k]? = some (some v) := by rw [List.getElem?_append_right (by rw [List.length_replicate]; omega), List.length_replicate, Nat.add_sub_cancel_left] at e2; exact e2
      obtain ⟨j, hj, hN, hsc⟩ := S.free k y e1'
      rw [List.getElem?_map, hj] at e2'
      have e4 : (σ[j]?).getD none = some v := Option.some.inj e2'
      have e5 : σ[j]? = some (some v) := by
        cases q : σ[j]? with
        | none => rw [q] at e4; cases e4
        | some o => rw [q] at e4; exact congrArg some e4
      have hk := S.clo (y, NameKind.free) (lookup_mem hsc) rfl
      obtain ⟨m, hn, hl⟩ := I.loc
      obtain ⟨u, ru, lk⟩ := hl j y v hN e5 (.inr hk)
      refine ⟨u, ru, .inr ⟨?_, ?_⟩⟩
      · have q := look_relabel (env := X.env) hsc
        show (relabel scope X.env).names.lookup y = _ ∨ (relabel scope X.env).names.lookup y = _
        rw [show (relabel scope X.env).names.lookup y = _ from q]
        by_cases hc : (NameKind.free == NameKind.free && X.env.scope.kind == .function && X.env.kindOf y == some .cell) = true
        · rw [if_pos hc]; exact .inl rfl
        · rw [if_neg hc]; exact .inr rfl
      · rcases lk with ⟨lk, _⟩ | ⟨_, c, hc, hcell⟩
        · rcases hk with hk | hk
          · rw [show X.env.kindOf y = _ from hk] at lk; cases lk
          · rw [show X.env.kindOf y = _ from hk] at lk; cases lk
        · refine ⟨c, ?_, hcell.keeps up⟩
          have hno : (y, NameKind.cell) ∉ scope.names := fun z => by
            have := uniq_kind S.uniq hsc z
            cases this
          show (cellsFrom _ scope.names _).lookup y = some c
          rw [cf_old scope.names _ _ y hno]
          obtain ⟨c', hc'⟩ := chas y (lookup_mem hsc)
          have := clook y c' hc'
          rw [hc] at this
          cases this
          exact hc'
  · rcases cold y c e with ⟨a1, _, _⟩ | a
    · exact ⟨none, a1⟩
    · obtain ⟨v, q⟩ := I.cell y c a
      exact ⟨v, q.keeps up⟩
  · show H (s.heap.push listO).objs.size = none
    exact I.hok.fresh (by rw [z1]; omega)
  · rcases cold y c e with ⟨_, a2, _⟩ | a
    · exact I.hok.fresh (by omega)
    · exact I.freeC y c a
  · have hp' : p ∈ X.pn ++ pins := by simpa using hp
    obtain ⟨e, n, ne, nf, d⟩ := I.pin p hp'
    have hpl := Heap.lt_size e
    refine ⟨up _ _ e, n, ?_, fun z => ?_, d⟩
    · show p.1 ≠ (s.heap.push listO).objs.size
      rw [z1]
      exact Nat.ne_of_lt (Nat.lt_succ_of_lt hpl)
    · rcases List.mem_cons.mp (I.stkSub p.1 z) with q | q
      · exact ne q
      · exact nf q
  · show (subG σ ix (List.replicate xs.length none)).length = (xs ++ fr).length
    unfold subG
    rw [List.length_append, List.length_map, List.length_append, S.len, List.length_replicate]
end
def CompOkG (J : It) (g : TG) (tc : TT) (te : TE) (Q : List V → Hp → Prop) (σ0 : St) (H1 : Hp) : Prop :=
  ∃ W : Nat → Nat → List V → St → Hp → Prop, (∃ m, W 0 m [] σ0 H1) ∧ ∀ i m ys σ H, W i m ys σ H → ys.length < sizeLine ∧
    ((J.stop i H ∧ Q ys H) ∨ (J.go i H ∧ ∃ (NY : St → V → Hp → Prop) (NN : St → Hp → Prop), (∀ σ' y H3, NY σ' y H3 → ∃ m', m' < m ∧ W (i + 1) m' (ys ++ [y]) σ' H3) ∧ (∀ σ' H2, NN σ' H2 → ∃ m', m' < m ∧ W (i + 1) m' ys σ' H2) ∧
      ∀ x H', J.yld i H x H' → g x σ H' fun σ2 H2 => tc σ2 H2 fun b H3 => if b = true then te σ2 H3 (NY σ2) else NN σ2 H3))
section
variable {X : Cx} {elt iter tg : Expr} {g : TG} {ifs : List Expr} {xs : List Str} {scope : Scope} {pos : Pos} {wi : TI} {tc : TT} {te : TE} {fr : List Str} {ix : List Nat}
theorem comp_loopG {pins : List (Addr × Obj)} {σ : St} {H : Hp} {s : Shared} {fp : List Addr} {it : Addr} {tn : Nat → Heap → Prop} {J : It} {R : Result → Shared → Prop} {Q : List V → Hp → Prop} (hc : X.calm = true) (S : CompScG X scope xs fr ix)
    (hel : ∀ C cells s₀ H₀ ex pins, PE (cxComp X scope (xs ++ fr) C cells s₀ H₀ ex pins) elt te) (hif : ∀ C cells s₀ H₀ ex pins, PIfs (cxComp X scope (xs ++ fr) C cells s₀ H₀ ex pins) ifs tc)
    (hgt : ∀ C cells s₀ H₀ ex pins, PG (cxComp X scope (xs ++ fr) C cells s₀ H₀ ex pins) tg g) (I : Inv X pins σ H s) (T : Turn X.prog X.w X.K tg J fp it tn) (st : tn 0 s.heap) (hfp : ∀ b ∈ fp, FpOk X pins H b) (h : CompOkG J g tc te Q (subG σ ix (List.replicate xs.length none)) H)
    (hR : ∀ s4 ys H4, (∃ m, s4.heap.Ns (s.heap.push listO).objs.size m) → Q ys H4 → H4 s.heap.objs.size = none → H4 (s.heap.push listO).objs.size = none → (∀ h', Heap.SameBut (s.heap.push listO).objs.size s4.heap h' → Inv X pins σ (upd H4 s.heap.objs.size (.lst ys)) { s4 with heap := h' }) → R (.ok .next) s4) :
    codeAny (model X.prog X.w) X.A (.compLoop (.ListComp elt [⟨tg, iter, ifs, 0⟩] scope pos) 0 (.ref it) (.ref s.heap.objs.size)
      (compEnvC scope (cellsFrom ((s.heap.push listO).push dictO).objs.size scope.names (clos X.env scope.names [])) (s.heap.push listO).objs.size X.env)) R { s with heap := pushCells ((s.heap.push listO).push dictO) scope.names } := by
  obtain ⟨W, ⟨m0, w0⟩, turn⟩ := h
  have hlt : ∀ b ∈ fp, b < s.heap.objs.size := fun b hb => by
    obtain ⟨o, e, _⟩ := T.obj 0 _ st b hb
    exact Heap.lt_size e
  have I0 := blk_startG S I hfp hlt
  have z1 : (s.heap.push listO).objs.size = s.heap.objs.size + 1 := Heap.size_push ..
  have up : ∀ b o, s.heap.get? b = some o → (pushCells ((s.heap.push listO).push dictO) scope.names).get? b = some o := fun b o e => pushCells_keeps _ _ b o (Heap.get?_push_of_some _ (Heap.get?_push_of_some _ e))
  have oD0 : (pushCells ((s.heap.push listO).push dictO) scope.names).get? s.heap.objs.size = some { cls := .type "list", data := .seq ([] : List Value).toArray } :=
    pushCells_keeps _ _ _ _ (Heap.get?_push_of_some _ (Heap.get?_push_size _ rfl))
  have clo' : ∀ y ∈ scope.names, y.2 = .free → ∃ c, X.env.cells.lookup y.1 = some c := fun y hy hk => I.ok.has y.1 (S.clo y hy hk)
  have cellsD : ∀ y c, (cellsFrom ((s.heap.push listO).push dictO).objs.size scope.names (clos X.env scope.names [])).lookup y = some c → c ≠ s.heap.objs.size := fun y c e => by
    rcases cf_cell scope.names ((s.heap.push listO).push dictO) (clos X.env scope.names []) y c e with ⟨_, a2, _⟩ | a
    · rw [Heap.size_push, z1] at a2
      exact Nat.ne_of_gt (Nat.lt_of_lt_of_le (Nat.lt_succ_of_lt (Nat.lt_succ_self _)) a2)
    · obtain ⟨v, q⟩ := I.cell y c (clos_look scope.names [] clo' (fun y c e => by simp at e) y c a)
      exact Nat.ne_of_lt q.lt
  generalize cellsFrom ((s.heap.push listO).push dictO).objs.size scope.names (clos X.env scope.names []) = cells at I0 cellsD ⊢
  generalize hCe : (s.heap.push listO).objs.size = C at I0 hR z1 ⊢
  generalize hDe : s.heap.objs.size = D at z1 oD0 cellsD hlt hR ⊢
  have hDC : D ≠ C := by omega
  have DleD : s.heap.objs.size ≤ D := by omega
  have DleC : s.heap.objs.size ≤ C := by omega
  have pnD : ∀ p ∈ X.pn ++ pins, p.1 ≠ D := fun p hp => by
    have := Heap.lt_size (I.pin p hp).1
    exact Nat.ne_of_lt (hDe ▸ this)
  have Dfs : D ∉ frs X.stack := fun z => by
    rcases List.mem_cons.mp (I.stkSub D z) with e | e
    · have := I.lt
      rw [← e, hDe] at this
      exact Nat.lt_irrefl _ this
    · exact I.nofs DleD e
  refine compLoop_own (fun n s' => ∃ i ys its k ox H', Inv (cxComp X scope (xs ++ fr) C cells s H fp pins) [] ox H' s' ∧ tn i s'.heap ∧ (∀ b ∈ fp, H' b = none) ∧ s'.heap.get? D = some { cls := .type "list", data := .seq its.toArray k } ∧ H' D = none ∧ Vals ys its ∧ W i n ys ox H') ?_ m0
    ⟨0, [], [], 0, _, H, I0, T.keep _ _ _ st fun b hb o e => up b o e, fun b hb => (hfp b hb).1, oD0, I.hok.fresh DleD, .nil, w0⟩
  rintro n s3 ⟨i, ys, its, k, ox, H3, I3, st3, fr3, oD3, nD3, rv3, w3⟩
  obtain ⟨hys, hcase⟩ := turn i n ys ox H3 w3
  have hlen := rv3.length
  have DC' : D ≠ (cxComp X scope (xs ++ fr) C cells s H fp pins).env.locals := hDC
  have I3p : Inv (cxComp X scope (xs ++ fr) C cells s H fp pins) [(D, { cls := .type "list", data := .seq its.toArray k })] ox H3 s3 := I3.pins_of fun p hp => by
    rw [List.mem_singleton.mp hp]
    exact ⟨oD3, nD3, DC', Dfs, fun v z => by cases z⟩
  have fpY : ∀ {H' : Hp}, (∀ b ∈ fp, H' b = none) → ∀ b ∈ fp, FpOk (cxComp X scope (xs ++ fr) C cells s H fp pins) [(D, { cls := .type "list", data := .seq its.toArray k })] H' b := fun {H'} hn b hb => by
    obtain ⟨e1, e2⟩ := I3.ok.exf b hb
    refine ⟨hn b hb, e1, I3.ok.exfs b hb, .inl hb, e2, fun p hp => ?_⟩
    rcases List.mem_append.mp hp with hp | hp
    · exact (hfp b hb).2.2.2.2.2 p hp
    · rw [List.mem_singleton.mp hp]
      have := hlt b hb
      exact Nat.ne_of_gt this
  rcases hcase with ⟨stop, q⟩ | ⟨go, NY, NN, hNY, hNN, step⟩
  · refine thn (T.done (cxComp X scope (xs ++ fr) C cells s H fp pins) rfl rfl rfl hc i _ s3 _ H3 _ I3p (fpY fr3) st3 stop) fun r s4 ⟨hr, I4⟩ => ?_
    subst hr
    have oD4 := (I4.pin (D, { cls := .type "list", data := .seq its.toArray k }) (List.mem_append_right _ (List.mem_singleton.mpr rfl))).1
    obtain ⟨m, hn, _⟩ := I4.loc
    exact hR s4 ys H3 ⟨m, hn⟩ q nD3 I4.free fun h' sb => blk_back I hfp I4 DleD DleC hDC nD3 oD4 rv3 (Nat.le_of_lt hys) sb
  · refine thn (T.item (cxComp X scope (xs ++ fr) C cells s H fp pins) rfl rfl rfl hc i _ s3 _ H3 _ I3p (fpY fr3) st3 go) fun r s4 ⟨u, hr, h4⟩ => ?_
    subst hr
    refine thn h4 fun _ s5 ⟨v, H5, I5, r5, y5, st5, fr5⟩ => ?_
    have I5' := I5.pinned (fpY fr5) (T.obj _ _ st5)
    refine wpAny_mono (hgt C cells s H fp pins _ s5 _ H5 v u _ I5' r5 (step v H5 y5)) (fun _ s6 ⟨σ6, H6, I6, q6⟩ => ?_) fun _ _ z => z.elim
    refine wpAny_mono (hif C cells s H fp pins _ s6 _ H6 _ I6 q6) (fun b s7 ⟨H7, I7, q7⟩ => ?_) fun _ _ z => z.elim
    have tnK : ∀ {H8 : Hp} {s8 : Shared} {σ8 : St}, Inv (cxComp X scope (xs ++ fr) C cells s H fp pins) ([(D, { cls := .type "list", data := .seq its.toArray k })] ++ pinsAt fp s5.heap) σ8 H8 s8 → tn (i + 1) s8.heap ∧ (∀ b ∈ fp, H8 b = none) ∧ s8.heap.get? D = some { cls := .type "list", data := .seq its.toArray k } ∧ H8 D = none := fun {H8 s8 σ8} I8 => by
      refine ⟨T.keep _ _ _ st5 fun b hb o e => (I8.pin (b, o) (List.mem_append_right _ (List.mem_append_right _ (mem_pinsAt hb e)))).1, fun b hb => ?_, ?_, ?_⟩
      · obtain ⟨o, e, d⟩ := T.obj _ _ st5 b hb
        exact (I8.pin (b, o) (List.mem_append_right _ (List.mem_append_right _ (mem_pinsAt hb e)))).2.1
      · exact (I8.pin (D, { cls := .type "list", data := .seq its.toArray k }) (List.mem_append_right _ (List.mem_append_left _ (List.mem_singleton.mpr rfl)))).1
      · exact (I8.pin (D, { cls := .type "list", data := .seq its.toArray k }) (List.mem_append_right _ (List.mem_append_left _ (List.mem_singleton.mpr rfl)))).2.1
    cases b with
    | false =>
      rw [if_neg Bool.false_ne_true] at q7 ⊢
      obtain ⟨m', hm, w7⟩ := hNN _ _ q7
      obtain ⟨t1, t2, t3, t4⟩ := tnK I7
      exact ⟨m', hm, i + 1, ys, its, k, σ6, H7, I7.pins_of fun p hp => (by cases hp), t1, t2, t3, t4, rv3, w7⟩
    | true =>
      rw [if_pos rfl] at q7 ⊢
      refine wpAny_mono (hel C cells s H fp pins _ s7 _ H7 _ I7 q7) (fun y s8 ⟨w, H8, I8, r8, q8⟩ => ?_) fun _ _ z => z.elim
      obtain ⟨m', hm, w8⟩ := hNY _ _ _ q8
      obtain ⟨t1, t2, t3, t4⟩ := tnK I8
      refine call_meets F.slot_list_append ⟨_, t3, rfl⟩ F.entry_list_append (F.args_list_append_2 _ _) (PySem.list_append D its.toArray k y (by rw [List.size_toArray]; omega)) ⟨t3, ?_⟩
      obtain ⟨k9, oD9⟩ : ∃ k9, (s8.heap.update D (Obj.mapSeq (·.push y))).get? D = some { cls := .type "list", data := .seq (its ++ [y]).toArray k9 } := ⟨_, by
        rw [show (its ++ [y]).toArray = its.toArray.push y by simp]
        exact PySem.IsL.update t3 (·.push y)⟩
      have I8n : Inv (cxComp X scope (xs ++ fr) C cells s H fp pins) [] σ6 H8 s8 := I8.pins_of fun p hp => (by cases hp)
      have I9 := Inv.turned (it := D) (t' := s8.toks) (h' := s8.heap.update D (Obj.mapSeq (·.push y))) I8n (fun b o hb e => (Heap.get?_update_other s8.heap _ (Ne.symm hb)).trans e) t4 DC' (.inr DleD) cellsD (fun p hp => pnD p (by simpa using hp))
      exact ⟨m', hm, i + 1, ys ++ [w], its ++ [y], k9, σ6, H8, I9, T.keep _ _ _ t1 fun b hb o e => (Heap.get?_update_other s8.heap _ (Nat.ne_of_gt (hlt b hb))).trans e, t2, oD9, t4, rv3.append (.cons r8 .nil), w8⟩
def tSetCompG (j : Nat) (wi : TI) (n : Nat) (ix : List Nat) (g : TG) (tc : TT) (te : TE) : TS := fun D σ H => wi σ H fun J H1 => CompOkG J g tc te (fun ys H2 => ∀ p, H2 p = none → D.nx (σ.set j (some (.ref p))) (upd H2 p (.lst ys))) (subG σ ix (List.replicate n none)) H1
theorem ps_setCompG {j : Nat} {y : Str} {py spos : Pos} (hc : X.calm = true) (hN : X.N.Nodup) (hj : X.N[j]? = some y) (hy : Loc X.env.scope y) (S : CompScG X scope xs fr ix) (hi : PI X tg iter wi) (hgt : ∀ C cells s₀ H₀ ex pins, PG (cxComp X scope (xs ++ fr) C cells s₀ H₀ ex pins) tg g)
    (hif : ∀ C cells s₀ H₀ ex pins, PIfs (cxComp X scope (xs ++ fr) C cells s₀ H₀ ex pins) ifs tc) (hel : ∀ C cells s₀ H₀ ex pins, PE (cxComp X scope (xs ++ fr) C cells s₀ H₀ ex pins) elt te)
    (hs : ∀ x, foldedSetIterable iter X.env x = pure x := by intro _; rfl)
    (hsw : swapsWith (.ListComp elt [⟨tg, iter, ifs, 0⟩] scope pos) (some (.Name y py)) spos.line X.env = pure true := by rfl)
    (hf : X.fn y = true ∨ X.env.scope.names.lookup y = some .local := by first | exact .inl rfl | exact .inr rfl | assumption) :
    PS X (.Assign [.Name y py] (.ListComp elt [⟨tg, iter, ifs, 0⟩] scope pos) spos) (tSetCompG j wi xs.length ix g tc te) := by
  intro pins s σ H D I h
  rw [exec_Assign_Name_used _ _ _ _ hsw]
  refine wpAny_bind (wpAny_standAt (wpAny_bind ?_))
  show wpAny _ X.A (do let _ ← comprehension (.ListComp elt [⟨tg, iter, ifs, 0⟩] scope pos) scope X.env _ (newList []) false (eval iter X.env) (some (assign (.Name y py) X.env))) _ _ s
  have clo' : ∀ y ∈ scope.names, y.2 = .free → ∃ c, X.env.cells.lookup y.1 = some c := fun y hy hk => I.ok.has y.1 (S.clo y hy hk)
  refine wpAny_bind (wpAny_mono (wpAny_comprehension_free (use := some (assign (.Name y py) X.env)) (Q := fun _ s' => SP X pins D .next s') rfl hs (closureFor_eq clo') S.kind S.names
    (thn (hi pins s σ H _ I h) fun v s1 h1 => thn h1 fun itv s2 h2 => ?_)) (fun _ s' hq => wpAny_pure (wpAny_pure hq)) fun _ _ e => e)
  obtain ⟨it, fp, tn, J, H2, rfl, I2, T, st2, f2, hw⟩ := h2
  refine wpAny_newObj_type (newEnv_comp ?_)
  have st3 : tn 0 (pushCells ((s2.heap.push listO).push dictO) scope.names) := T.keep _ _ _ st2 fun b hb o e => pushCells_keeps _ _ b o (Heap.get?_push_of_some _ (Heap.get?_push_of_some _ e))
  have z1 : (s2.heap.push listO).objs.size = s2.heap.objs.size + 1 := Heap.size_push ..
  have loop := comp_loopG (iter := iter) (pos := pos) (R := compPost (model X.prog X.w) X.A X.xe (some (assign (.Name y py) X.env)) (fun _ s' => SP X pins D .next s') (.ref s2.heap.objs.size) (s2.heap.push listO).objs.size) hc S hel hif hgt I2 T st2 f2 hw
    (fun s4 ys H4 ⟨m, hn⟩ q nD nC4 hb => by
      have I5 : Inv X pins σ (upd H4 s2.heap.objs.size (.lst ys)) s4 := hb s4.heap (Heap.SameBut.refl ..)
      have CL : (s2.heap.push listO).objs.size ≠ X.env.locals := by rw [z1]; exact Nat.ne_of_gt (Nat.lt_succ_of_lt I2.lt)
      have CC : ∀ z c, X.env.cells.lookup z = some c → c ≠ (s2.heap.push listO).objs.size := fun z c e => by
        obtain ⟨v, w⟩ := I2.cell z c e
        rw [z1]
        exact Nat.ne_of_lt (Nat.lt_succ_of_lt w.lt)
      show wpAny _ X.A (assign (.Name y py) X.env (.ref s2.heap.objs.size)) _ _ s4
      refine wpAny_assign_Name (store_ok2 (v := .ref s2.heap.objs.size) I5 hN hj hy rfl (fun s6 I6 ⟨a, sa, ha⟩ => ?_) hf)
      have aC : (s2.heap.push listO).objs.size ≠ a := by
        rcases ha with e | e
        · rw [e]; exact CL
        · exact (CC _ _ e).symm
      refine ⟨m, hn.sameBut sa aC, fun h6 sb6 => ?_⟩
      have nC : upd H4 s2.heap.objs.size (.lst ys) (s2.heap.push listO).objs.size = none := by
        rw [upd_ne (by rw [z1]; exact Nat.succ_ne_self _)]
        exact nC4
      have I7 := Inv.turned (it := (s2.heap.push listO).objs.size) (t' := s6.toks) (h' := h6) I6 (fun b o hb e => (sb6.2 b hb).trans e) nC CL (.inr (by rw [z1]; exact Nat.le_succ_of_le I2.sz)) CC (fun p hp => by
        rw [z1]
        exact Nat.ne_of_lt (Nat.lt_succ_of_lt (Heap.lt_size (I2.pin p hp).1)))
      exact ⟨_, _, I7, q _ nD⟩)
  exact codeAny_compStart_list loop (T.self _ _ _ _ _ st3 loop)
end
end L2
namespace L2
open PySem
def TwoS (σ : St) : Prop := ∃ o1 o2, σ = [o1, o2]
theorem comp_zipN {K : PySem.W.Frag} {a b : Addr} {xs ys : List V} {te : TE} {Q : List V → Hp → Prop} {H : Hp} (hlen : xs.length = ys.length) (Pv : Nat → List V → Hp → Prop) (h0 : Pv 0 [] H) (hl : ∀ i zs H, i ≤ xs.length → Pv i zs H → SqT K H a xs ∧ SqL K H b ys ∧ zs.length < sizeLine)
    (hs : ∀ (i : Nat) x y zs H p, xs[i]? = some x → ys[i]? = some y → Pv i zs H → H p = none → te [some x, some y] (upd H p (.tup [x, y])) fun z H3 => TwoS [some x, some y] ∧ Pv (i + 1) (zs ++ [z]) H3) (hd : ∀ zs H, Pv xs.length zs H → Q zs H) :
    CompOkG (Itz K a b) (gTup K 2 (gCons (gName 0) (gCons (gName 1) gNil))) tTrue te Q [none, none] H := by
  refine ⟨fun i m zs σ H => m = xs.length - i ∧ i ≤ xs.length ∧ TwoS σ ∧ Pv i zs H, ⟨_, rfl, Nat.zero_le _, ⟨_, _, rfl⟩, h0⟩, ?_⟩
  rintro i m zs σ H ⟨rfl, hi, ⟨o1, o2, rfl⟩, p⟩
  obtain ⟨q1, q2, hz⟩ := hl i zs H hi p
  refine ⟨hz, ?_⟩
  by_cases hlt : i < xs.length
  · have hlt2 : i < ys.length := by omega
    refine .inr ⟨⟨xs, ys, xs[i], ys[i], q1, q2, by simp [hlt], by simp [hlt2]⟩, fun σ' y H3 => TwoS σ' ∧ Pv (i + 1) (zs ++ [y]) H3, fun σ' H2 => False, fun σ' y H3 z => ⟨xs.length - (i + 1), by omega, rfl, hlt, z.1, z.2⟩, fun σ' H2 z => z.elim, fun x H' y => ?_⟩
    obtain ⟨pp, u, v, rfl, hp, rfl, hu, hv⟩ := y
    refine ⟨pp, [u, v], rfl, SqT.of upd_same, rfl, u, [v], rfl, v, [], rfl, rfl, ?_⟩
    refine iteT (A := te [some u, some v] (upd H pp (.tup [u, v])) fun y H3 => TwoS [some u, some v] ∧ Pv (i + 1) (zs ++ [y]) H3) (B := False) ?_
    exact hs i u v zs H pp (hu xs q1) (hv ys q2) p hp
  · have e : i = xs.length := by omega
    subst e
    exact .inl ⟨⟨xs, ys, q1, q2, Nat.le_refl _⟩, hd zs H p⟩
end L2
namespace L2
open PySem
theorem pg_two {X : Cx} {scope : Scope} {x y : Str} {fr : List Str} {ix : List Nat} {px py tp : Pos} {k : Nat} (hc : X.calm = true) (S : CompScG X scope [x, y] fr ix) (hx : scope.names.lookup x = some .local) (hy : scope.names.lookup y = some .local) (C : Addr) (cells : List (Str × Addr)) (s₀ : Shared) (H₀ : Hp) (ex : List Addr) (pins : List (Addr × Obj)) :
    PG (cxComp X scope ([x, y] ++ fr) C cells s₀ H₀ ex pins) (.Tuple [.Name x px, .Name y py] k tp) (gTup X.K 2 (gCons (gName 0) (gCons (gName 1) gNil))) := by
  have lx : (cxComp X scope ([x, y] ++ fr) C cells s₀ H₀ ex pins).env.scope.names.lookup x = some .local := look_relabel (env := X.env) hx
  have ly : (cxComp X scope ([x, y] ++ fr) C cells s₀ H₀ ex pins).env.scope.names.lookup y = some .local := look_relabel (env := X.env) hy
  exact pg_tup (X := cxComp X scope ([x, y] ++ fr) C cells s₀ H₀ ex pins) hc (pgs_cons (pg_name (i := 0) S.nd rfl (.inl lx) (.inr lx)) (pgs_cons (pg_name (i := 1) S.nd rfl (.inl ly) (.inr ly)) pgs_nil))
end L2
set_option Elab.async false
set_option linter.all false
set_option maxRecDepth 100000
namespace L2
open PySem PySem.Spec PyProof.Rows
abbrev tx (l : List Nat) : Str := ⟨l.toArray⟩
theorem str_ext {x y : Str} (h : x.cps.toList = y.cps.toList) : x = y := by
  cases x
  cases y
  simp only [Str.mk.injEq]
  exact Array.toList_inj.mp h
theorem tx_list (x : Str) : tx x.cps.toList = x := str_ext rfl
theorem app_list (x y : Str) : (x ++ y).cps.toList = x.cps.toList ++ y.cps.toList := by
  show (x.cps ++ y.cps).toList = _
  simp
theorem len_list (x : Str) : x.length = x.cps.toList.length := by simp [Str.length]
theorem strip_list (g : Nat → Bool) (l r : Bool) (x : Str) : (Txt.stripBy g l r x).cps.toList = (x.cps.toList.drop (stripLo g l x)).take (stripHi g r x (stripLo g l x) - stripLo g l x) := by
  rw [PyProof.Rows.stripBy_eq, StrLaws.strSub_toList]
theorem takeWhile_full {α : Type} {p : α → Bool} : ∀ {l : List α}, (∀ c ∈ l, p c = true) → l.takeWhile p = l
  | [], _ => rfl
  | a :: l, h => by rw [List.takeWhile_cons, if_pos (h a List.mem_cons_self), takeWhile_full fun c hc => h c (List.mem_cons_of_mem _ hc)]
theorem strip_all {g : Nat → Bool} {x : Str} (h : ∀ c ∈ x.cps.toList, g c = true) : Txt.stripBy g true true x = Str.empty := by
  apply str_ext
  rw [strip_list]
  have : stripLo g true x = x.cps.toList.length := by
    show (x.cps.toList.takeWhile g).length = _
    rw [takeWhile_full h]
  rw [this, List.drop_length, List.take_nil]
  rfl
theorem takeWhile_lt {α : Type} {p : α → Bool} : ∀ {l : List α} {c : α}, c ∈ l → p c = false → (l.takeWhile p).length < l.length
  | a :: l, c, hc, hp => by
    rw [List.takeWhile_cons]
    by_cases ha : p a = true
    · rw [if_pos ha]
      rcases List.mem_cons.mp hc with e | hc
      · subst e
        rw [ha] at hp
        cases hp
      · have := takeWhile_lt hc hp
        simp only [List.length_cons]
        omega
    · rw [if_neg ha]
      simp
theorem drop_takeWhile {α : Type} (p : α → Bool) : ∀ l : List α, l.drop (l.takeWhile p).length = l.dropWhile p
  | [] => rfl
  | a :: l => by
    rw [List.takeWhile_cons, List.dropWhile_cons]
    by_cases ha : p a = true
    · rw [if_pos ha, if_pos ha]
      exact drop_takeWhile p l
    · rw [if_neg ha, if_neg ha]
      rfl
theorem strip_some {g : Nat → Bool} {x : Str} {c : Nat} (hc : c ∈ x.cps.toList) (hg : g c = false) : Txt.stripBy g true true x ≠ Str.empty := by
  intro e
  have e2 := congrArg (fun z : Str => z.cps.toList.length) e
  simp only [strip_list, List.length_take, List.length_drop] at e2
  have e3 : stripLo g true x = (x.cps.toList.takeWhile g).length := rfl
  have h1 := takeWhile_lt hc hg
  have e4 : stripHi g true x (stripLo g true x) = x.length - ((x.cps.toList.drop (stripLo g true x)).reverse.takeWhile g).length := rfl
  have hd : x.cps.toList.drop (stripLo g true x) = x.cps.toList.dropWhile g := by rw [e3, drop_takeWhile]
  have hne : ∃ a r, x.cps.toList.dropWhile g = a :: r ∧ g a = false := by
    cases q : x.cps.toList.dropWhile g with
    | nil =>
      have := congrArg List.length (drop_takeWhile g x.cps.toList)
      rw [q, List.length_drop] at this
      simp at this
      simp at h1
      omega
    | cons a r => exact ⟨a, r, rfl, by
        have := List.head_dropWhile_not g (l := x.cps.toList) (by rw [q]; simp)
        simpa [q] using this⟩
  obtain ⟨a, r, q, ga⟩ := hne
  have h2 : ((x.cps.toList.drop (stripLo g true x)).reverse.takeWhile g).length < (x.cps.toList.drop (stripLo g true x)).reverse.length := takeWhile_lt (c := a) (by rw [hd, q]; simp) ga
  rw [List.length_reverse, List.length_drop] at h2
  have h3 : (Str.empty).cps.toList.length = 0 := rfl
  rw [h3] at e2
  rw [len_list] at e4
  omega
theorem strip_is (x y : Str) : decide (Txt.stripChars x y = Str.empty) = x.cps.toList.all fun c => y.cps.contains c := by
  by_cases h : ∀ c ∈ x.cps.toList, y.cps.contains c = true
  · rw [show Txt.stripChars x y = Str.empty from strip_all h, decide_eq_true rfl, eq_comm, List.all_eq_true]
    exact h
  · have h' : ∃ c ∈ x.cps.toList, y.cps.contains c = false := by
      simpa using h
    obtain ⟨c, hc, hg⟩ := h'
    rw [decide_eq_false (show Txt.stripChars x y ≠ Str.empty from strip_some hc hg), eq_comm, List.all_eq_false]
    exact ⟨c, hc, by rw [hg]; simp⟩
theorem rstrip_is {g : Nat → Bool} {x : Str} {a b : List Nat} (e : x.cps.toList = a ++ b) (hb : ∀ c ∈ b, g c = true) (ha : ∀ c, a.getLast? = some c → g c = false) : Txt.stripBy g false true x = tx a := by
  apply str_ext
  rw [strip_list]
  have e0 : stripLo g false x = 0 := rfl
  have e1 : stripHi g true x 0 = x.length - (x.cps.toList.reverse.takeWhile g).length := rfl
  have e2 : x.cps.toList.reverse.takeWhile g = b.reverse := by
    rw [e, List.reverse_append, List.takeWhile_append_of_pos fun c hc => hb c (List.mem_reverse.mp hc)]
    have : a.reverse.takeWhile g = [] := by
      cases q : a.reverse with
      | nil => rfl
      | cons c r =>
        have hl : a.getLast? = some c := by rw [← List.head?_reverse, q]; rfl
        rw [List.takeWhile_cons, if_neg (by rw [ha c hl]; simp)]
    rw [this, List.append_nil]
  rw [e0, e1, e2, len_list, e, List.drop_zero, List.length_append, List.length_reverse, Nat.sub_zero, Nat.add_sub_cancel, List.take_left]
theorem lstrip_is {g : Nat → Bool} {x : Str} {a b : List Nat} (e : x.cps.toList = a ++ b) (ha : ∀ c ∈ a, g c = true) (hb : ∀ c, b.head? = some c → g c = false) : Txt.stripBy g true false x = tx b := by
  apply str_ext
  rw [strip_list]
  have e1 : stripLo g true x = a.length := by
    show (x.cps.toList.takeWhile g).length = _
    rw [e, List.takeWhile_append_of_pos ha]
    have : b.takeWhile g = [] := by
      cases b with
      | nil => rfl
      | cons c r => rw [List.takeWhile_cons, if_neg (by rw [hb c rfl]; simp)]
    rw [this, List.append_nil]
  have e2 : stripHi g false x a.length = x.length := rfl
  rw [e1, e2, len_list, e, List.drop_left, List.length_append, Nat.add_sub_cancel_left, List.take_length]
theorem starts_is (x : Str) (c : Nat) : Txt.startswith x ⟨#[c]⟩ = decide (x.cps.toList.head? = some c) := by
  have h := StrLaws.subAt_one x c 0
  rw [Bool.eq_iff_iff]
  show ((decide (0 + (⟨#[c]⟩ : Str).length ≤ x.length) && Builtin.Str.subAt x ⟨#[c]⟩ 0) = true) ↔ _
  rw [Bool.and_eq_true, decide_eq_true_eq, decide_eq_true_eq, h, List.head?_eq_getElem?]
theorem tail_is {x : Str} {c : Nat} {r : List Nat} (e : x.cps.toList = c :: r) : Txt.slice x (some 1) none = tx r := by
  have hl : x.length = r.length + 1 := by rw [len_list, e]; rfl
  rw [slice_from_eq (b := x.length) (by decide) (by omega) rfl]
  apply str_ext
  show (((x.cps.toList.drop (1 : Int).toNat).take ((x.length : Int) - 1).toNat).toArray).toList = r
  have e1 : ((x.length : Int) - 1).toNat = r.length := by omega
  rw [e1, e]
  show (r.take r.length).toArray.toList = r
  simp
theorem join_list (c : Nat) : ∀ (a : Str) (r : List Str), (Str.join ⟨#[c]⟩ (a :: r)).cps.toList = a.cps.toList ++ r.flatMap fun p => c :: p.cps.toList
  | a, [] => by
    show a.cps.toList = a.cps.toList ++ []
    rw [List.append_nil]
  | a, b :: r => by
    show (a ++ ⟨#[c]⟩ ++ Str.join ⟨#[c]⟩ (b :: r)).cps.toList = _
    rw [app_list, app_list, join_list c b r, List.flatMap_cons, List.append_assoc]
    rfl
theorem cut_eq {c : Nat} : ∀ {a b x y : List Nat}, c ∉ a → c ∉ b → a ++ c :: x = b ++ c :: y → a = b ∧ x = y
  | [], [], x, y, _, _, h => ⟨rfl, (List.cons.inj h).2⟩
  | [], d :: b, x, y, _, hb, h => absurd (List.mem_cons.mpr (.inl (List.cons.inj h).1)) hb
  | d :: a, [], x, y, ha, _, h => absurd (List.mem_cons.mpr (.inl (List.cons.inj h).1.symm)) ha
  | d :: a, e :: b, x, y, ha, hb, h => by
    have h1 := List.cons.inj h
    have ih := cut_eq (fun m => ha (List.mem_cons_of_mem _ m)) (fun m => hb (List.mem_cons_of_mem _ m)) h1.2
    exact ⟨by rw [h1.1, ih.1], ih.2⟩
theorem cut_no {c : Nat} {a b y : List Nat} (ha : c ∉ a) (h : a = b ++ c :: y) : False := ha (by rw [h]; exact List.mem_append_right _ List.mem_cons_self)
theorem join_inj {c : Nat} : ∀ {a b : Str} {r t : List Str}, (∀ p ∈ a :: r, c ∉ p.cps.toList) → (∀ p ∈ b :: t, c ∉ p.cps.toList) → Str.join ⟨#[c]⟩ (a :: r) = Str.join ⟨#[c]⟩ (b :: t) → a :: r = b :: t
  | a, b, [], [], _, _, h => by rw [show a = b from h]
  | a, b, [], q :: t, ha, hb, h => by
    have e := congrArg (fun z : Str => z.cps.toList) h
    simp only [join_list, List.flatMap_cons, List.flatMap_nil, List.append_nil] at e
    exact (cut_no (ha a List.mem_cons_self) e).elim
  | a, b, p :: r, [], ha, hb, h => by
    have e := congrArg (fun z : Str => z.cps.toList) h
    simp only [join_list, List.flatMap_cons, List.flatMap_nil, List.append_nil] at e
    exact (cut_no (hb b List.mem_cons_self) e.symm).elim
  | a, b, p :: r, q :: t, ha, hb, h => by
    have e := congrArg (fun z : Str => z.cps.toList) h
    simp only [join_list, List.flatMap_cons] at e
    have e2 := cut_eq (x := p.cps.toList ++ r.flatMap fun p => c :: p.cps.toList) (y := q.cps.toList ++ t.flatMap fun p => c :: p.cps.toList) (ha a List.mem_cons_self) (hb b List.mem_cons_self) e
    have e3 : Str.join ⟨#[c]⟩ (p :: r) = Str.join ⟨#[c]⟩ (q :: t) := str_ext (by rw [join_list, join_list]; exact e2.2)
    rw [str_ext e2.1, join_inj (fun z m => ha z (List.mem_cons_of_mem _ m)) (fun z m => hb z (List.mem_cons_of_mem _ m)) e3]
theorem split_of {c : Nat} {ps : List Str} (hne : ps ≠ []) (hp : ∀ p ∈ ps, c ∉ p.cps.toList) : Txt.split (Str.join ⟨#[c]⟩ ps) ⟨#[c]⟩ = ps := by
  have h1 := StrLaws.join_split (Str.join ⟨#[c]⟩ ps) ⟨#[c]⟩
  have h2 := StrLaws.split_free (Str.join ⟨#[c]⟩ ps) c
  have h3 := split_pos (Str.join ⟨#[c]⟩ ps) ⟨#[c]⟩
  generalize Txt.split (Str.join ⟨#[c]⟩ ps) ⟨#[c]⟩ = qs at h1 h2 h3
  cases qs with
  | nil => simp at h3
  | cons a r =>
    cases ps with
    | nil => exact absurd rfl hne
    | cons b t => exact join_inj h2 hp h1
theorem fig_at : ∀ d : Nat, d < 10 → Builtin.Str.occurrences "0123456789" ⟨#[48 + d]⟩ 0 ("0123456789" : Str).length 1 = [d] := by decide +kernel
end L2
set_option Elab.async false
set_option linter.all false
set_option maxRecDepth 100000
set_option maxHeartbeats 1000000
namespace Q3
open PySem L2 Cn Rw Qs
def top (i : Nat) : Stmt := PySem.Challenge.pw_sheetask_k03_whole_written_and_read.main.body.getD i (.Pass ⟨0, 0, 0, 0⟩)
abbrev s_is_name : Stmt := top 8
abbrev s_is_number : Stmt := top 9
abbrev s_number_from : Stmt := top 10
abbrev s_form_of : Stmt := top 11
abbrev s_taken : Stmt := top 12
abbrev s_forms_behind : Stmt := top 13
abbrev s_made : Stmt := top 14
abbrev s_closed : Stmt := top 15
abbrev s_read : Stmt := top 16
abbrev s_parts_of : Stmt := top 18
abbrev s_pieces_of : Stmt := top 19
abbrev s_shown : Stmt := top 20
abbrev s__law_wide : Stmt := top 22
abbrev s__law_whole : Stmt := top 23
abbrev s__law_stocked : Stmt := top 24
abbrev s__law_spelt : Stmt := top 25
abbrev s__law_true : Stmt := top 26
abbrev s__law_asking : Stmt := top 27
abbrev s__law_picked : Stmt := top 28
abbrev s__law_columns : Stmt := top 29
abbrev s__law_sorted : Stmt := top 30
abbrev s__law_headed : Stmt := top 31
abbrev s__law_doubled : Stmt := top 32
abbrev s__law_beside : Stmt := top 33
abbrev s__law_united : Stmt := top 34
abbrev s__law_counted : Stmt := top 35
abbrev s__law_grown : Stmt := top 36
abbrev s__law_like : Stmt := top 37
abbrev s_law : Stmt := top 38
structure Txt (K : PySem.W.Frag) (mg : Str → Option Value) : Prop where
  isinstance : mg "isinstance" = none
  int : mg "int" = none
  bool : mg "bool" = none
  list : mg "list" = none
  tuple : mg "tuple" = none
  str : mg "str" = none
  len : mg "len" = none
  range : mg "range" = none
  min : mg "min" = none
  max : mg "max" = none
  sum : mg "sum" = none
  sorted : mg "sorted" = none
  reversed : mg "reversed" = none
  zip : mg "zip" = none
section
variable {P : Program} {w : World} {K : PySem.W.Frag} {mg : Str → Option Value} {base : Heap} {f : Addr} {fd : FuncData}
seal PE PA PS PSs PT PI PO PG
theorem cut_map {α : Type} (f : α → V) (xs : List α) (lo hi : Option Int) : cutV (xs.map f) lo hi = ((xs.drop (HT.sIx xs.length 0 lo)).take (HT.sIx xs.length xs.length hi - HT.sIx xs.length 0 lo)).map f := by
  unfold cutV
  rw [List.length_map, List.map_take, List.map_drop]
def spWide (K : PySem.W.Frag) : Sp := fun vs H Q _ => ∃ (a : Addr) (ns : List Int) (few bd : Int), vs = [.ref a, .int few, .int bd] ∧ SqL K H a (ns.map V.int) ∧ ns.length ≤ 63 ∧ 0 ≤ few ∧ few ≤ bd ∧
  ∀ (m : Int) (H' : Hp), Same H H' → 0 ≤ m → m ≤ few + 40 → Q (.int m) H'
theorem sc__law_wide : FnScope ["_law_script", "_law_few", "_law_bound"] ["_law_script", "_law_few", "_law_bound"] (defScope s__law_wide) := ⟨rfl, rfl, rfl, by decide +kernel, rfl, by decide +kernel, by decide +kernel⟩
theorem ok__law_wide (F : Fun K "_law_wide" "_law_wide" s__law_wide f fd) (T : Txt K mg) : FnOk P w K mg base CX0 1 f fd ["_law_script", "_law_few", "_law_bound"] (spWide K) := by
  refine F.ok sc__law_wide (fun vs H Q E h => ?_) (fun cdv A outer s H vs Q E hr h => ?_)
  · obtain ⟨a, ns, few, bd, rfl, _⟩ := h
    rfl
  obtain ⟨a, ns, few, bd, rfl, hS, h63, h0, hb, q⟩ := h
  refine ⟨_, (pss_cons (ps_if (pt_cmpR op_gt (pe_callB call_len_seq rfl T.len PySem.boot_len (pa_conN (pv 0) pa_nil)) pe_int (nomark _))
      (pss_one (ps_ret (pv 2)))
      pss_nil)
    (pss_one (ps_ret (pe_ix ix_list (pe_lst (pa_conN (pv 1) (pa_conK (pe_callB (call_min2 rfl) rfl T.min PyProof.Rows.boot_min (pa_conB (pe_op op_add (pv 1) pe_int) (pa_conN (pv 2) pa_nil))) pa_nil))) (pe_callTy call_int1 rfl T.int PyProof.Rows.boot_int (pa_conP (pe_cmpR op_eq (pe_op op_mod (pe_callB (call_sum rfl) rfl T.sum PyProof.Rows.boot_sum (pa_conS (pe_slice sl_list (pv 0) po_none (po_some pe_int)) pa_nil)) pe_int) pe_int (nomark _)) pa_nil)) (fun _ _ => rfl))))), ?_⟩
  have hl : (ns.map V.int).length = ns.length := List.length_map _
  refine ⟨_, rfl, a, _, rfl, .inl hS, _, _, rfl, rfl, _, rfl, ?_⟩
  refine ifF (decide_eq_false (by rw [hl]; omega)) ?_
  refine ⟨_, rfl, _, rfl, _, _, rfl, rfl, _, rfl, _, _, rfl, le_line (by show 2 ≤ _; decide), fun lp hlp => ?_⟩
  have a1 := same_new hlp (.lst [V.int few, V.int (if bd < few + 40 then bd else few + 40)])
  refine ⟨_, rfl, _, rfl, a, _, rfl, a1.seq hS, fun cp hcp => ?_⟩
  rw [cut_map]
  refine ⟨cp, _, rfl, SqL.of upd_same, _, _, rfl, rfl, (by show (0 : Int) < 16; decide), rfl, .inr ⟨_, rfl, ?_⟩⟩
  have a2 := a1.trans (same_new hcp (.lst (((ns.drop (HT.sIx ns.length 0 none)).take (HT.sIx ns.length ns.length (some 3) - HT.sIx ns.length 0 none)).map V.int)))
  obtain ⟨bb, hbb⟩ : ∃ bb, decide (V.int (((ns.drop (HT.sIx ns.length 0 none)).take (HT.sIx ns.length ns.length (some 3) - HT.sIx ns.length 0 none)).sum % 16) = V.int 5) = bb := ⟨_, rfl⟩
  dsimp only at hbb ⊢
  rw [hbb]
  have a3 := (same_new hcp (.lst (((ns.drop (HT.sIx ns.length 0 none)).take (HT.sIx ns.length ns.length (some 3) - HT.sIx ns.length 0 none)).map V.int))) lp _ upd_same
  cases bb with
  | true => exact ⟨lp, _, _, _, rfl, rfl, SqL.of a3, atI1, q _ _ a2 (by split <;> omega) (by split <;> omega)⟩
  | false => exact ⟨lp, _, _, _, rfl, rfl, SqL.of a3, atI0, q _ _ a2 (by omega) (by omega)⟩
theorem l_open : ("(" : Str).length = 1 := by decide +kernel
theorem l_close : (")" : Str).length = 1 := by decide +kernel
theorem l_blank : (" " : Str).length = 1 := by decide +kernel
theorem l_less : ("less" : Str).length = 4 := by decide +kernel
theorem l_same : ("same" : Str).length = 4 := by decide +kernel
theorem l_not : ("not" : Str).length = 3 := by decide +kernel
theorem l_and : ("and" : Str).length = 3 := by decide +kernel
theorem l_or : ("or" : Str).length = 2 := by decide +kernel
theorem l_pick : ("(pick " : Str).length = 6 := by decide +kernel
theorem l_cols : ("(cols " : Str).length = 6 := by decide +kernel
theorem l_sort : ("(sort " : Str).length = 6 := by decide +kernel
theorem l_first : ("(first " : Str).length = 7 := by decide +kernel
theorem l_both : ("(both " : Str).length = 6 := by decide +kernel
theorem l_pair : ("(pair " : Str).length = 6 := by decide +kernel
theorem l_join : ("(join " : Str).length = 6 := by decide +kernel
theorem l_group : ("(group " : Str).length = 7 := by decide +kernel
theorem l_picks : ("(pick (same " : Str).length = 12 := by decide +kernel
theorem l_cb : (") " : Str).length = 2 := by decide +kernel
theorem l_n : ("n" : Str).length = 1 := by decide +kernel
theorem l_s : ("s" : Str).length = 1 := by decide +kernel
theorem l_bn : (" n" : Str).length = 2 := by decide +kernel
theorem l_bs : (" s" : Str).length = 2 := by decide +kernel
theorem num_len : ∀ i ∈ nums, (toString i : Str).length ≤ 31 ∧ i.natAbs.log2 < 1920 := by decide +kernel
theorem many_len : ∀ i ∈ manys, (toString i : Str).length ≤ 31 ∧ i.natAbs.log2 < 1920 := by decide +kernel
theorem side_len {hs : List Str} (hn : ∀ n ∈ hs, n.length ≤ 10) : ∀ {a : Side}, Side.small hs a → (Side.txt a).length ≤ 31
  | .nm s, h => Nat.le_trans (hn s h) (by decide)
  | .nu i, h => (num_len i h).1
theorem spell_len {hs : List Str} (hn : ∀ n ∈ hs, n.length ≤ 10) : ∀ {c : Cond}, csmall hs c → (spell c).length ≤ 80 * c.size
  | .less a b, h => by
    have h1 := side_len hn h.1
    have h2 := side_len hn h.2
    simp only [spell, ends, Cond.size]
    (simp only [Str.length_append, l_open, l_close, l_blank, l_less, l_same, l_not, l_and, l_or, l_pick, l_cols, l_sort, l_first, l_both, l_pair, l_join, l_group, l_picks, l_cb, l_n, l_s, l_bn, l_bs, PySem.sizeLine_eq]; try omega)
  | .same a b, h => by
    have h1 := side_len hn h.1
    have h2 := side_len hn h.2
    simp only [spell, ends, Cond.size]
    (simp only [Str.length_append, l_open, l_close, l_blank, l_less, l_same, l_not, l_and, l_or, l_pick, l_cols, l_sort, l_first, l_both, l_pair, l_join, l_group, l_picks, l_cb, l_n, l_s, l_bn, l_bs, PySem.sizeLine_eq]; try omega)
  | .no c, h => by
    have h1 := spell_len hn (c := c) h
    simp only [spell, Cond.size]
    (simp only [Str.length_append, l_open, l_close, l_blank, l_less, l_same, l_not, l_and, l_or, l_pick, l_cols, l_sort, l_first, l_both, l_pair, l_join, l_group, l_picks, l_cb, l_n, l_s, l_bn, l_bs, PySem.sizeLine_eq]; try omega)
  | .an c d, h => by
    have h1 := spell_len hn (c := c) h.1
    have h2 := spell_len hn (c := d) h.2
    simp only [spell, Cond.size]
    (simp only [Str.length_append, l_open, l_close, l_blank, l_less, l_same, l_not, l_and, l_or, l_pick, l_cols, l_sort, l_first, l_both, l_pair, l_join, l_group, l_picks, l_cb, l_n, l_s, l_bn, l_bs, PySem.sizeLine_eq]; try omega)
  | .or c d, h => by
    have h1 := spell_len hn (c := c) h.1
    have h2 := spell_len hn (c := d) h.2
    simp only [spell, Cond.size]
    (simp only [Str.length_append, l_open, l_close, l_blank, l_less, l_same, l_not, l_and, l_or, l_pick, l_cols, l_sort, l_first, l_both, l_pair, l_join, l_group, l_picks, l_cb, l_n, l_s, l_bn, l_bs, PySem.sizeLine_eq]; try omega)
theorem in_less : inV (.str "less") [.str "less", .str "same"] = true := by decide +kernel
theorem in_same : inV (.str "same") [.str "less", .str "same"] = true := by decide +kernel
theorem in_not : inV (.str "not") [.str "less", .str "same"] = false := by decide +kernel
theorem in_and : inV (.str "and") [.str "less", .str "same"] = false := by decide +kernel
theorem in_or : inV (.str "or") [.str "less", .str "same"] = false := by decide +kernel
def wordOf : Cond → Str
  | .less _ _ => "less"
  | .same _ _ => "same"
  | .no _ => "not"
  | .an _ _ => "and"
  | .or _ _ => "or"
def subs : Cond → List Cond
  | .no c => [c]
  | .an c d => [c, d]
  | .or c d => [c, d]
  | _ => []
structure Seen (hs : List Str) (H : Hp) (c : Cond) (v : V) (p : Addr) (xs : List V) : Prop where
  e : v = .ref p
  h : H p = some (.tup (.str (wordOf c) :: xs))
  lf : inV (.str (wordOf c)) [.str "less", .str "same"] = c.leaf
  sd : c.leaf = true → ∃ a b, xs = [Side.v a, Side.v b] ∧ Side.small hs a ∧ Side.small hs b ∧ spell c = "(" ++ wordOf c ++ " " ++ ends a b ++ ")" ∧ (c = .less a b ∨ c = .same a b)
  pt : c.leaf = false → xs.length = (subs c).length ∧ (∀ (i : Nat) x, xs[i]? = some x → ∃ d, (subs c)[i]? = some d ∧ CondAt H d x ∧ d.size + 1 ≤ c.size ∧ csmall hs d) ∧
    spell c = "(" ++ wordOf c ++ " " ++ Str.join " " ((subs c).map spell) ++ ")"
theorem seen {hs : List Str} {H : Hp} {c : Cond} {v : V} (h : CondAt H c v) (sm : csmall hs c) : ∃ p xs, Seen hs H c v p xs := by
  cases c with
  | less a b =>
    obtain ⟨p, rfl, h⟩ := h
    exact ⟨p, _, rfl, h, in_less, fun _ => ⟨a, b, rfl, sm.1, sm.2, rfl, .inl rfl⟩, fun z => (by cases z)⟩
  | same a b =>
    obtain ⟨p, rfl, h⟩ := h
    exact ⟨p, _, rfl, h, in_same, fun _ => ⟨a, b, rfl, sm.1, sm.2, rfl, .inr rfl⟩, fun z => (by cases z)⟩
  | no c =>
    obtain ⟨p, x, rfl, h, h1⟩ := h
    refine ⟨p, _, rfl, h, in_not, fun z => (by cases z), fun _ => ⟨rfl, fun i y hy => ?_, rfl⟩⟩
    match i, hy with
    | 0, hy => cases hy; exact ⟨c, rfl, h1, Nat.le_refl _, sm⟩
  | an c d =>
    obtain ⟨p, x, y, rfl, h, h1, h2⟩ := h
    refine ⟨p, _, rfl, h, in_and, fun z => (by cases z), fun _ => ⟨rfl, fun i y hy => ?_, rfl⟩⟩
    match i, hy with
    | 0, hy => cases hy; exact ⟨c, rfl, h1, by simp only [Cond.size]; omega, sm.1⟩
    | 1, hy => cases hy; exact ⟨d, rfl, h2, by simp only [Cond.size]; omega, sm.2⟩
  | or c d =>
    obtain ⟨p, x, y, rfl, h, h1, h2⟩ := h
    refine ⟨p, _, rfl, h, in_or, fun z => (by cases z), fun _ => ⟨rfl, fun i y hy => ?_, rfl⟩⟩
    match i, hy with
    | 0, hy => cases hy; exact ⟨c, rfl, h1, by simp only [Cond.size]; omega, sm.1⟩
    | 1, hy => cases hy; exact ⟨d, rfl, h2, by simp only [Cond.size]; omega, sm.2⟩
theorem side_str {hs : List Str} {a : Side} (sm : Side.small hs a) : StrOf (Side.v a) (Side.txt a) := by
  cases a with
  | nm s => exact .inr rfl
  | nu i => exact .inl ⟨i, rfl, (num_len i sm).2, rfl⟩
theorem cut_tail (x : V) (r : List V) : cutV (x :: r) (some 1) none = r := by
  unfold cutV
  rw [show HT.sIx (x :: r).length 0 (some 1) = 1 by unfold HT.sIx; simp]
  rw [HT.sIx_none, List.drop_succ_cons, List.drop_zero, List.length_cons, Nat.add_sub_cancel, List.take_length]
theorem cut_some {x : V} {r : List V} : ¬ (HT.sIx (x :: r).length 0 (some 1) = 0 ∧ HT.sIx (x :: r).length (x :: r).length none = (x :: r).length) := by
  rw [show HT.sIx (x :: r).length 0 (some 1) = 1 by unfold HT.sIx; simp]
  rintro ⟨z, _⟩
  cases z
theorem subs_le (c : Cond) : (subs c).length ≤ 2 := by cases c <;> simp [subs]
theorem join_w (c : Cond) : (((subs c).map spell).map (·.length)).sum + ((subs c).map spell).length * 1 ≤ (Str.join " " ((subs c).map spell)).length + 1 := by
  cases c with
  | less a b => simp [subs]
  | same a b => simp [subs]
  | no c => simp [subs, Str.join]
  | an c d =>
    simp only [subs, List.map_cons, List.map_nil, Str.join, Str.length_append, l_blank, List.sum_cons, List.sum_nil, List.length_cons, List.length_nil]
    omega
  | or c d =>
    simp only [subs, List.map_cons, List.map_nil, Str.join, Str.length_append, l_blank, List.sum_cons, List.sum_nil, List.length_cons, List.length_nil]
    omega
def spSpelt (K : PySem.W.Frag) (n : Nat) : Sp := fun vs H Q _ => ∃ (v : V) (hs : List Str) (c : Cond), vs = [v] ∧ CondAt H c v ∧ csmall hs c ∧ (∀ n ∈ hs, n.length ≤ 10) ∧ c.size ≤ n ∧ c.size ≤ 1000 ∧ ∀ H', Same H H' → Q (.str (spell c)) H'
theorem sc__law_spelt : FnScope ["_law_condition", "_law_ends", "_law_parts"] ["_law_condition"] (defScope s__law_spelt) := ⟨rfl, rfl, rfl, by decide +kernel, rfl, by decide +kernel, by decide +kernel⟩
theorem step__law_spelt (F : Fun K "_law_spelt" "_law_spelt" s__law_spelt f fd) (T : Txt K mg) (n : Nat) (C_law_spelt : Kn P w K mg base n "_law_spelt" ["_law_condition"] (spSpelt K n)) : FnOk P w K mg base CX0 (n + 1) f fd ["_law_condition"] (spSpelt K (n + 1)) := by
  refine F.ok sc__law_spelt (fun vs H Q E h => ?_) (fun cdv A outer s H vs Q E hr h => ?_)
  · obtain ⟨v, hs, c, rfl, _⟩ := h
    rfl
  obtain ⟨v, hs, c, rfl, hc, sm, hn, hsz, hk, q⟩ := h
  obtain ⟨p, xs, rfl, hp, lf, sd, pt⟩ := seen hc sm
  have wl : (wordOf c).length ≤ 4 := by cases c <;> simp only [wordOf] <;> decide +kernel
  refine ⟨_, (pss_cons (ps_if (pt_cmpR op_in_seq (pe_ix ix_tup (pv 0) pe_int (fun _ _ => rfl)) (pe_lst (pa_conC pe_str (pa_conC pe_str pa_nil))) (by with_unfolding_all rfl))
      (pss_cons (ps_set (i := 1) sc__law_spelt.nd rfl (Or.inl rfl) (pe_op op_add_str (pe_op op_add_str (pe_callTy call_strV rfl T.str PyProof.Rows.boot_str (pa_conS (pe_ix ix_tup (pv 0) pe_int (fun _ _ => rfl)) pa_nil)) pe_str) (pe_callTy call_strV rfl T.str PyProof.Rows.boot_str (pa_conS (pe_ix ix_tup (pv 0) pe_int (fun _ _ => rfl)) pa_nil))))
      (pss_one (ps_ret (pe_op op_add_str (pe_op op_add_str (pe_op op_add_str (pe_op op_add_str pe_str (pe_ix ix_tup (pv 0) pe_int (fun _ _ => rfl))) pe_str) (pv 1)) pe_str))))
      pss_nil)
    (pss_cons (ps_setComp (j := 2) rfl sc__law_spelt.nd rfl (Or.inl rfl) (CompSc.of (sx := defScope s__law_spelt) (NX := ["_law_condition", "_law_ends", "_law_parts"]) (fr := []) (ix := []) rfl rfl (by decide +kernel)) (pi_tup (pe_slice sl_tup (pv 0) (po_some pe_int) po_none)) (fun _ _ _ _ _ _ => pif_nil) (fun _ _ _ _ _ _ => (pe_callF C_law_spelt (hr.mono (by first | decide | omega)) rfl (pa_conN (pv 0) pa_nil))))
    (pss_one (ps_ret (pe_op op_add_str (pe_op op_add_str (pe_op op_add_str (pe_op op_add_str pe_str (pe_ix ix_tup (pv 0) pe_int (fun _ _ => rfl))) pe_str) (pe_bm PySem.F.plainAttrs_str PySem.F.slot_str_join PySem.F.type_str_join mt_join pe_str (pa_conN (pv 2) pa_nil))) pe_str))))), ?_⟩
  refine ⟨_, rfl, p, _, _, _, rfl, rfl, SqT.of hp, atI0, le_line (by show 2 ≤ _; decide), fun lp hlp => ?_⟩
  have a1 := same_new hlp (.lst [V.str "less", V.str "same"])
  have hp1 := a1 _ _ hp
  refine ⟨lp, _, rfl, .inl (SqL.of upd_same), rfl, (by rfl), _, rfl, ?_⟩
  dsimp -proj only
  rw [if_neg Bool.false_ne_true, lf]
  cases hcl : c.leaf with
  | true =>
    obtain ⟨a, b, rfl, sa, sb, es, _⟩ := sd hcl
    have la := side_len hn sa
    have lb := side_len hn sb
    refine ifT rfl ?_
    refine ⟨_, rfl, p, _, _, _, rfl, rfl, SqT.of hp1, atI1, _, _, rfl, side_str sa, _, _, rfl, rfl, by (simp only [Str.length_append, l_open, l_close, l_blank, l_less, l_same, l_not, l_and, l_or, l_pick, l_cols, l_sort, l_first, l_both, l_pair, l_join, l_group, l_picks, l_cb, l_n, l_s, l_bn, l_bs, PySem.sizeLine_eq]; try omega), _, rfl, p, _, _, _, rfl, rfl, SqT.of hp1, atI2, _, _, rfl, side_str sb, _, _, rfl, rfl, by (simp only [Str.length_append, l_open, l_close, l_blank, l_less, l_same, l_not, l_and, l_or, l_pick, l_cols, l_sort, l_first, l_both, l_pair, l_join, l_group, l_picks, l_cb, l_n, l_s, l_bn, l_bs, PySem.sizeLine_eq]; try omega), ?_⟩
    refine ⟨_, rfl, p, _, _, _, rfl, rfl, SqT.of hp1, atI0, _, _, rfl, rfl, by (simp only [Str.length_append, l_open, l_close, l_blank, l_less, l_same, l_not, l_and, l_or, l_pick, l_cols, l_sort, l_first, l_both, l_pair, l_join, l_group, l_picks, l_cb, l_n, l_s, l_bn, l_bs, PySem.sizeLine_eq]; try omega), _, _, rfl, rfl, by (simp only [Str.length_append, l_open, l_close, l_blank, l_less, l_same, l_not, l_and, l_or, l_pick, l_cols, l_sort, l_first, l_both, l_pair, l_join, l_group, l_picks, l_cb, l_n, l_s, l_bn, l_bs, PySem.sizeLine_eq]; try omega), _, rfl, _, _, rfl, rfl, by (simp only [Str.length_append, l_open, l_close, l_blank, l_less, l_same, l_not, l_and, l_or, l_pick, l_cols, l_sort, l_first, l_both, l_pair, l_join, l_group, l_picks, l_cb, l_n, l_s, l_bn, l_bs, PySem.sizeLine_eq]; try omega), _, _, rfl, rfl, by (simp only [Str.length_append, l_open, l_close, l_blank, l_less, l_same, l_not, l_and, l_or, l_pick, l_cols, l_sort, l_first, l_both, l_pair, l_join, l_group, l_picks, l_cb, l_n, l_s, l_bn, l_bs, PySem.sizeLine_eq]; try omega), ?_⟩
    have := q _ a1
    rw [es] at this
    exact this
  | false =>
    obtain ⟨hl, hpt, es⟩ := pt hcl
    refine ifF rfl ?_
    have sl2 := subs_le c
    refine ⟨_, rfl, _, rfl, p, _, rfl, SqT.of hp1, cut_some, fun cp hcp => ?_⟩
    rw [cut_tail]
    have a2 := a1.trans (same_new hcp (.tup xs))
    have hcp2 : upd (upd H lp (.lst [V.str "less", V.str "same"])) cp (.tup xs) cp = some (.tup xs) := upd_same
    refine ⟨cp, rfl, ⟨_, SqT.of hcp2⟩, ?_⟩
    refine comp_tupN (xs := xs) (fun i ys H' => Same (upd (upd H lp (.lst [V.str "less", V.str "same"])) cp (.tup xs)) H' ∧ ys = ((subs c).take i).map fun d => V.str (spell d)) ⟨Same.refl _, rfl⟩ ?_ ?_ ?_
    · rintro i ys H' hi ⟨sm', rfl⟩
      exact ⟨SqT.of (sm' _ _ hcp2), lt_line (by rw [List.length_map, List.length_take]; omega)⟩
    · rintro i x ys H' hi ⟨sm', rfl⟩
      obtain ⟨d, hd, hcd, hsd, smd⟩ := hpt i x hi
      refine ⟨_, rfl, x, hs, d, rfl, hcd.same (a2.trans sm'), smd, hn, by omega, by omega, fun H3 s3 => ⟨sm'.trans s3, ?_⟩⟩
      rw [List.take_add_one, hd, List.map_append]
      rfl
    · rintro ys H' ⟨sm', rfl⟩ rp hrp
      rw [hl, List.take_length]
      have a3 := a2.trans (sm'.trans (same_new hrp (.lst ((subs c).map fun d => V.str (spell d)))))
      have hp3 := a3 _ _ hp
      have e2 : ((subs c).map fun d => V.str (spell d)) = ((subs c).map spell).map V.str := by rw [List.map_map]; rfl
      have sb := spell_len hn sm
      rw [es] at sb
      simp only [Str.length_append, l_open, l_close, l_blank] at sb
      refine ⟨_, rfl, p, _, _, _, rfl, rfl, SqT.of hp3, atI0, _, _, rfl, rfl, by (simp only [Str.length_append, l_open, l_close, l_blank, l_less, l_same, l_not, l_and, l_or, l_pick, l_cols, l_sort, l_first, l_both, l_pair, l_join, l_group, l_picks, l_cb, l_n, l_s, l_bn, l_bs, PySem.sizeLine_eq]; try omega), _, _, rfl, rfl, by (simp only [Str.length_append, l_open, l_close, l_blank, l_less, l_same, l_not, l_and, l_or, l_pick, l_cols, l_sort, l_first, l_both, l_pair, l_join, l_group, l_picks, l_cb, l_n, l_s, l_bn, l_bs, PySem.sizeLine_eq]; try omega), rfl, _, rfl, _, _, (subs c).map spell, rfl, rfl, SqL.of (by rw [← e2]; exact upd_same), ?_, _, _, rfl, rfl, by (simp only [Str.length_append, l_open, l_close, l_blank, l_less, l_same, l_not, l_and, l_or, l_pick, l_cols, l_sort, l_first, l_both, l_pair, l_join, l_group, l_picks, l_cb, l_n, l_s, l_bn, l_bs, PySem.sizeLine_eq]; try omega), _, _, rfl, rfl, by (simp only [Str.length_append, l_open, l_close, l_blank, l_less, l_same, l_not, l_and, l_or, l_pick, l_cols, l_sort, l_first, l_both, l_pair, l_join, l_group, l_picks, l_cb, l_n, l_s, l_bn, l_bs, PySem.sizeLine_eq]; try omega), ?_⟩
      · have := join_w c
        simp only [l_blank]
        omega
      · have := q _ a3
        rw [es] at this
        exact this
theorem ok__law_spelt (F : Fun K "_law_spelt" "_law_spelt" s__law_spelt f fd) (T : Txt K mg) (hN : ∀ k sp, FnOk P w K mg base CX0 k f fd ["_law_condition"] sp → Kn P w K mg base k "_law_spelt" ["_law_condition"] sp) : ∀ n, FnOk P w K mg base CX0 n f fd ["_law_condition"] (spSpelt K n)
  | 0 => ⟨fun vs H Q E h => by obtain ⟨v, hs, c, rfl, _⟩ := h; rfl, fun A outer s H args us vs Q E hr he hb hv h => by
    obtain ⟨v, hs, c, _, _, _, _, hz, _⟩ := h
    have := c.size_pos
    omega⟩
  | n + 1 => step__law_spelt F T n (hN n _ (ok__law_spelt F T hN n))
def spTrue (K : PySem.W.Frag) (n : Nat) : Sp := fun vs H Q _ => ∃ (v : V) (hp rp : Addr) (hs : List Str) (rs : List Int) (c : Cond), vs = [v, .ref hp, .ref rp] ∧ CondAt H c v ∧ csmall hs c ∧ H hp = some (.lst (hs.map V.str)) ∧ H rp = some (.lst (rs.map V.int)) ∧ rs.length = hs.length ∧ c.size ≤ n ∧
  ∀ H', Same H H' → Q (.bl (ev hs rs c)) H'
theorem less_ne : decide (V.str "same" = V.str "less") = false := by decide +kernel
theorem not_ne1 : decide (V.str "and" = V.str "not") = false := by decide +kernel
theorem not_ne2 : decide (V.str "or" = V.str "not") = false := by decide +kernel
theorem or_ne : decide (V.str "and" = V.str "or") = false := by decide +kernel
theorem or_ne2 : decide (V.str "not" = V.str "or") = false := by decide +kernel
theorem sc__law_true : FnScope ["_law_condition", "_law_heads", "_law_row", "_law_word", "_law_sides", "_law_part", "_law_told"] ["_law_condition", "_law_heads", "_law_row"] (defScope s__law_true) := ⟨rfl, rfl, rfl, by decide +kernel, rfl, by decide +kernel, by decide +kernel⟩
theorem step__law_true (F : Fun K "_law_true" "_law_true" s__law_true f fd) (T : Txt K mg) (n : Nat) (C_law_true : Kn P w K mg base n "_law_true" ["_law_condition", "_law_heads", "_law_row"] (spTrue K n)) : FnOk P w K mg base CX0 (n + 1) f fd ["_law_condition", "_law_heads", "_law_row"] (spTrue K (n + 1)) := by
  refine F.ok sc__law_true (fun vs H Q E h => ?_) (fun cdv A outer s H vs Q E hr h => ?_)
  · obtain ⟨v, hp, rp, hs, rs, c, rfl, _⟩ := h
    rfl
  obtain ⟨v, hp, rp, hs, rs, c, rfl, hc, sm, hhp, hrp, hrl, hsz, q⟩ := h
  obtain ⟨p, xs, rfl, hp0, lf, sd, pt⟩ := seen hc sm
  refine ⟨_, (pss_cons (ps_set (i := 3) sc__law_true.nd rfl (Or.inl rfl) (pe_ix ix_tup (pv 0) pe_int (fun _ _ => rfl)))
    (pss_cons (ps_if (pt_cmpR op_in_seq (pv 3) (pe_lst (pa_conC pe_str (pa_conC pe_str pa_nil))) (by with_unfolding_all rfl))
      (pss_cons (ps_set (i := 4) sc__law_true.nd rfl (Or.inl rfl) (pe_lst pa_nil))
      (pss_cons (ps_for PassesOwn.never rfl (pi_tup (pe_slice sl_tup (pv 0) (po_some pe_int) po_none)) (pg_name (i := 5) sc__law_true.nd rfl (Or.inl rfl))
        (pss_one (ps_if (pt_val (pe_callB call_isinst rfl T.isinstance PyProof.Rows.boot_isinstance (pa_conN (pv 5) (pa_conN (pe_bltn (v := .ty "str") rfl T.str PyProof.Rows.boot_str rfl) pa_nil))))
          (pss_one (ps_expr (pe_bm PySem.F.plainAttrs_list PySem.F.slot_list_append PySem.F.type_list_append mt_append (pv 4) (pa_conS (pe_ix ix_list (pv 2) (pe_bm PySem.F.plainAttrs_list PySem.F.slot_list_index PySem.F.type_list_index mt_index (pv 1) (pa_conN (pv 5) pa_nil)) (fun _ _ => rfl)) pa_nil))))
          (pss_one (ps_expr (pe_bm PySem.F.plainAttrs_list PySem.F.slot_list_append PySem.F.type_list_append mt_append (pv 4) (pa_conN (pv 5) pa_nil)))))))
      (pss_cons (ps_if (pt_cmpR op_eq (pv 3) pe_str (nomark _))
        (pss_one (ps_ret (pe_cmpR op_lt (pe_ix ix_list (pv 4) pe_int (fun _ _ => rfl)) (pe_ix ix_list (pv 4) pe_int (fun _ _ => rfl)) (nomark _))))
        pss_nil)
      (pss_one (ps_ret (pe_cmpR op_eq (pe_ix ix_list (pv 4) pe_int (fun _ _ => rfl)) (pe_ix ix_list (pv 4) pe_int (fun _ _ => rfl)) (nomark _)))))))
      pss_nil)
    (pss_cons (ps_setComp (j := 6) rfl sc__law_true.nd rfl (Or.inl rfl) (CompSc.of (sx := defScope s__law_true) (NX := ["_law_condition", "_law_heads", "_law_row", "_law_word", "_law_sides", "_law_part", "_law_told"]) (fr := ["_law_heads", "_law_row"]) (ix := [1, 2]) rfl rfl (by decide +kernel)) (pi_tup (pe_slice sl_tup (pv 0) (po_some pe_int) po_none)) (fun _ _ _ _ _ _ => pif_nil) (fun _ _ _ _ _ _ => (pe_callF C_law_true (hr.mono (by first | decide | omega)) rfl (pa_conN (pv 0) (pa_conN (pv 1) (pa_conN (pv 2) pa_nil))))))
    (pss_cons (ps_if (pt_cmpR op_eq (pv 3) pe_str (nomark _))
      (pss_one (ps_ret (pe_not (pe_ix ix_list (pv 6) pe_int (fun _ _ => rfl)))))
      pss_nil)
    (pss_cons (ps_if (pt_cmpR op_eq (pv 3) pe_str (nomark _))
      (pss_one (ps_ret (pe_cmpR op_in_seq pe_bl (pv 6) (by with_unfolding_all rfl))))
      pss_nil)
    (pss_one (ps_ret (pe_cmpR op_notIn_seq pe_bl (pv 6) (by with_unfolding_all rfl))))))))), ?_⟩
  refine ⟨_, rfl, p, _, _, _, rfl, rfl, SqT.of hp0, atI0, ?_⟩
  refine ⟨_, rfl, le_line (by show 2 ≤ _; decide), fun lp hlp => ?_⟩
  have a1 := same_new hlp (.lst [V.str "less", V.str "same"])
  refine ⟨lp, _, rfl, .inl (SqL.of upd_same), rfl, (by rfl), _, rfl, ?_⟩
  generalize upd H lp (.lst [V.str "less", V.str "same"]) = H1 at a1 ⊢
  have hp1 := a1 _ _ hp0
  have hh1 := a1 _ _ hhp
  have hr1 := a1 _ _ hrp
  rw [if_neg Bool.false_ne_true, lf]
  cases hcl : c.leaf with
  | true =>
    obtain ⟨a, b, rfl, sa, sb, _, hab⟩ := sd hcl
    refine ifT rfl ?_
    refine ⟨le_line (by show 0 ≤ _; decide), fun sp hsp => ?_⟩
    have b1 := same_new hsp (.lst [])
    have hp2 := b1 _ _ hp1
    refine ⟨_, rfl, _, rfl, p, _, rfl, SqT.of hp2, cut_some, fun cp hcp => ?_⟩
    rw [cut_tail]
    have b2 := b1.trans (same_new hcp (.tup [Side.v a, Side.v b]))
    have ncp : cp ≠ sp := (ne_of_none upd_same hcp).symm
    have hsp2 : upd (upd H1 sp (.lst [])) cp (.tup [Side.v a, Side.v b]) sp = some (.lst []) := by rw [upd_ne ncp.symm]; exact upd_same
    have hcp2 : upd (upd H1 sp (.lst [])) cp (.tup [Side.v a, Side.v b]) cp = some (.tup [Side.v a, Side.v b]) := upd_same
    generalize upd (upd H1 sp (.lst [])) cp (.tup [Side.v a, Side.v b]) = H2 at b2 hsp2 hcp2 ⊢
    refine ⟨cp, rfl, ⟨_, SqT.of hcp2⟩, for_tup (K := K) (a := cp) (xs := [Side.v a, Side.v b]) (fun i σ H' => ∃ o5 : Option V, σ = [some (.ref p), some (.ref hp), some (.ref rp), some (.str (wordOf c)), some (.ref sp), o5, none] ∧ Same H1 H' ∧ H' cp = some (.tup [Side.v a, Side.v b]) ∧ H' sp = some (.lst (([num hs rs a, num hs rs b].take i).map V.int)))
      ⟨none, rfl, b2, hcp2, hsp2⟩ (fun i σ H' _ ⟨_, _, _, h, _⟩ => SqT.of h) ?_ ?_⟩
    · rintro i x σ H' hi ⟨o5, rfl, s', hc', hs'⟩
      have key : ∃ d : Side, x = Side.v d ∧ Side.small hs d ∧ [num hs rs a, num hs rs b].take (i + 1) = [num hs rs a, num hs rs b].take i ++ [num hs rs d] := by
        match i, hi with
        | 0, hi => cases hi; exact ⟨a, rfl, sa, rfl⟩
        | 1, hi => cases hi; exact ⟨b, rfl, sb, rfl⟩
      obtain ⟨d, rfl, sdd, et⟩ := key
      have hh' := s' _ _ hh1
      have hr' := s' _ _ hr1
      have fin : ∃ o5 : Option V, ([some (.ref p), some (.ref hp), some (.ref rp), some (.str (wordOf c)), some (.ref sp), some (Side.v d), none] : List (Option V)) = [some (.ref p), some (.ref hp), some (.ref rp), some (.str (wordOf c)), some (.ref sp), o5, none] ∧ Same H1 (upd H' sp (.lst ((([num hs rs a, num hs rs b].take i).map V.int) ++ [V.int (num hs rs d)]))) ∧
          upd H' sp (.lst ((([num hs rs a, num hs rs b].take i).map V.int) ++ [V.int (num hs rs d)])) cp = some (.tup [Side.v a, Side.v b]) ∧ upd H' sp (.lst ((([num hs rs a, num hs rs b].take i).map V.int) ++ [V.int (num hs rs d)])) sp = some (.lst (([num hs rs a, num hs rs b].take (i + 1)).map V.int)) :=
        ⟨_, rfl, s'.put hsp, by rw [upd_ne ncp]; exact hc', by rw [upd_same, et, List.map_append]; rfl⟩
      have hlt : ((([num hs rs a, num hs rs b].take i).map V.int)).length < sizeLine := lt_line (by rw [List.length_map, List.length_take]; simp only [List.length_cons, List.length_nil]; omega)
      cases d with
      | nm s =>
        refine ⟨_, rfl, _, _, _, _, rfl, TyOf.str s, kit_same, _, rfl, ?_⟩
        refine ifT rfl ?_
        have hix : hs.idxOf s < rs.length := by rw [hrl]; exact List.idxOf_lt_length_iff.mpr sdd
        have hi0 := index_strs sdd
        refine ⟨_, rfl, .inl ⟨rfl, _, SqL.of hs'⟩, _, rfl, _, rfl, .inl ⟨rfl, _, SqL.of hh'⟩, _, rfl, hp, _, _, hs.idxOf s, rfl, rfl, SqL.of hh', rfl, flat_strs hs, hi0.1, hi0.2, rp, _, _, _, rfl, rfl, SqL.of hr', atI_nat (int_at hix), sp, _, _, rfl, rfl, hs', hlt, ?_⟩
        exact fin
      | nu k =>
        refine ⟨_, rfl, _, _, _, _, rfl, TyOf.int k, kit_int_str, _, rfl, ?_⟩
        refine ifF rfl ?_
        refine ⟨_, rfl, .inl ⟨rfl, _, SqL.of hs'⟩, _, rfl, sp, _, _, rfl, rfl, hs', hlt, ?_⟩
        exact fin
    · rintro σ H' ⟨o5, rfl, s', hc', hs'⟩
      refine ⟨_, rfl, rfl, _, rfl, ?_⟩
      have qq := q _ (a1.trans s')
      rcases hab with rfl | rfl
      · refine ifT rfl ?_
        exact ⟨_, rfl, sp, _, _, _, rfl, rfl, SqL.of hs', atI0, _, rfl, sp, _, _, _, rfl, rfl, SqL.of hs', atI1, _, _, rfl, rfl, qq⟩
      · refine ifF less_ne ?_
        exact ⟨_, rfl, sp, _, _, _, rfl, rfl, SqL.of hs', atI0, _, rfl, sp, _, _, _, rfl, rfl, SqL.of hs', atI1, rfl, qbl dec_intV qq⟩
  | false =>
    obtain ⟨hl, hpt, es⟩ := pt hcl
    refine ifF rfl ?_
    have sl2 := subs_le c
    refine ⟨_, rfl, _, rfl, p, _, rfl, SqT.of hp1, cut_some, fun cp hcp => ?_⟩
    rw [cut_tail]
    have a2 := same_new hcp (.tup xs)
    have hcp2 : upd H1 cp (.tup xs) cp = some (.tup xs) := upd_same
    generalize upd H1 cp (.tup xs) = H2 at a2 hcp2 ⊢
    refine ⟨cp, rfl, ⟨_, SqT.of hcp2⟩, ?_⟩
    refine comp_tupN (xs := xs) (fun i ys H' => Same H2 H' ∧ ys = ((subs c).take i).map fun d => V.bl (ev hs rs d)) ⟨Same.refl _, rfl⟩ ?_ ?_ ?_
    · rintro i ys H' hi ⟨sm', rfl⟩
      exact ⟨SqT.of (sm' _ _ hcp2), lt_line (by rw [List.length_map, List.length_take]; omega)⟩
    · rintro i x ys H' hi ⟨sm', rfl⟩
      obtain ⟨d, hd, hcd, hsd, smd⟩ := hpt i x hi
      have t := a1.trans (a2.trans sm')
      refine ⟨_, rfl, _, rfl, _, rfl, x, hp, rp, hs, rs, d, rfl, hcd.same t, smd, t _ _ hhp, t _ _ hrp, hrl, by omega, fun H3 s3 => ⟨sm'.trans s3, ?_⟩⟩
      rw [List.take_add_one, hd, List.map_append]
      rfl
    · rintro ys H' ⟨sm', rfl⟩ tp htp
      rw [hl, List.take_length]
      have a3 := a1.trans (a2.trans (sm'.trans (same_new htp (.lst ((subs c).map fun d => V.bl (ev hs rs d))))))
      have qq := q _ a3
      have fl : ((subs c).map fun d => V.bl (ev hs rs d)).all flatV = true := by
        rw [List.all_map, List.all_eq_true]
        intro d _
        rfl
      refine ⟨_, rfl, rfl, _, rfl, ?_⟩
      cases c with
      | less a b => cases hcl
      | same a b => cases hcl
      | no c =>
        refine ifT rfl ?_
        exact ⟨_, rfl, tp, _, _, _, rfl, rfl, SqL.of upd_same, atI0, _, rfl, qq⟩
      | an c d =>
        refine ifF not_ne1 ?_
        refine ⟨_, rfl, rfl, _, rfl, ?_⟩
        refine ifF or_ne ?_
        refine ⟨_, rfl, tp, _, rfl, .inl (SqL.of upd_same), rfl, fl, qbl ?_ qq⟩
        show (!inV (V.bl false) [V.bl (ev hs rs c), V.bl (ev hs rs d)]) = (ev hs rs c && ev hs rs d)
        cases ev hs rs c <;> cases ev hs rs d <;> rfl
      | or c d =>
        refine ifF not_ne2 ?_
        refine ⟨_, rfl, rfl, _, rfl, ?_⟩
        refine ifT rfl ?_
        refine ⟨_, rfl, tp, _, rfl, .inl (SqL.of upd_same), rfl, fl, qbl ?_ qq⟩
        show inV (V.bl true) [V.bl (ev hs rs c), V.bl (ev hs rs d)] = (ev hs rs c || ev hs rs d)
        cases ev hs rs c <;> cases ev hs rs d <;> rfl
theorem ok__law_true (F : Fun K "_law_true" "_law_true" s__law_true f fd) (T : Txt K mg) (hN : ∀ k sp, FnOk P w K mg base CX0 k f fd ["_law_condition", "_law_heads", "_law_row"] sp → Kn P w K mg base k "_law_true" ["_law_condition", "_law_heads", "_law_row"] sp) : ∀ n, FnOk P w K mg base CX0 n f fd ["_law_condition", "_law_heads", "_law_row"] (spTrue K n)
  | 0 => ⟨fun vs H Q E h => by obtain ⟨v, hp, rp, hs, rs, c, rfl, _⟩ := h; rfl, fun A outer s H args us vs Q E hr he hb hv h => by
    obtain ⟨v, hp, rp, hs, rs, c, _, _, _, _, _, _, hz, _⟩ := h
    have := c.size_pos
    omega⟩
  | n + 1 => step__law_true F T n (hN n _ (ok__law_true F T hN n))
theorem atI_of {α : Type} {xs : List α} {i : Int} (h0 : 0 ≤ i) (h1 : i < (xs.length : Int)) : ∃ (h : i.toNat < xs.length), atI xs i = some xs[i.toNat] := by
  have h : i.toNat < xs.length := by omega
  exact ⟨h, atI_int h0 (List.getElem?_eq_getElem h)⟩
theorem mod_of {i n : Int} (h : 0 < n) : 0 ≤ i % n ∧ i % n < n := ⟨Int.emod_nonneg _ (by omega), Int.emod_lt_of_pos _ h⟩
theorem num_at {i : Int} (h0 : 0 ≤ i) (h1 : i < 6) : ∃ m ∈ nums, atI (nums.map V.int) i = some (.int m) := by
  obtain ⟨h, e⟩ := atI_of (xs := nums.map V.int) h0 (by show i < 6; exact h1)
  refine ⟨nums[i.toNat]'(by simpa using h), List.getElem_mem _, ?_⟩
  rw [e, List.getElem_map]
theorem name_at {hs : List Str} {i : Int} (hne : hs ≠ []) : ∃ s ∈ hs, atI (hs.map V.str) (i % (((hs.map V.str).length : Nat) : Int)) = some (.str s) := by
  have hl : 0 < hs.length := List.length_pos_iff.mpr hne
  have hm : (0 : Int) < (((hs.map V.str).length : Nat) : Int) := by rw [List.length_map]; omega
  obtain ⟨a, b⟩ := mod_of (i := i) hm
  obtain ⟨h, e⟩ := atI_of (xs := hs.map V.str) a b
  refine ⟨hs[(i % (((hs.map V.str).length : Nat) : Int)).toNat]'(by simpa using h), List.getElem_mem _, ?_⟩
  rw [e, List.getElem_map]
def spAsking (K : PySem.W.Frag) : Sp := fun vs H Q _ => ∃ (hp : Addr) (seed : Int) (hs : List Str), vs = [.ref hp, .int seed] ∧ H hp = some (.lst (hs.map V.str)) ∧ hs ≠ [] ∧
  ∀ (v : V) (c : Cond) (H' : Hp), Same H H' → CondAt H' c v → csmall hs c → c.size ≤ 5 → Q v H'
theorem sc__law_asking : FnScope ["_law_heads", "_law_seed", "_law_one", "_law_other", "_law_number", "_law_first", "_law_second", "_law_menu"] ["_law_heads", "_law_seed"] (defScope s__law_asking) := ⟨rfl, rfl, rfl, by decide +kernel, rfl, by decide +kernel, by decide +kernel⟩
theorem ok__law_asking (F : Fun K "_law_asking" "_law_asking" s__law_asking f fd) (T : Txt K mg) : FnOk P w K mg base CX0 1 f fd ["_law_heads", "_law_seed"] (spAsking K) := by
  refine F.ok sc__law_asking (fun vs H Q E h => ?_) (fun cdv A outer s H vs Q E hr h => ?_)
  · obtain ⟨hp, seed, hs, rfl, _⟩ := h
    rfl
  obtain ⟨hp, seed, hs, rfl, hh, hne, q⟩ := h
  have hlen : (0 : Int) < (((hs.map V.str).length : Nat) : Int) := by
    have := List.length_pos_iff.mpr hne
    rw [List.length_map]; omega
  have tl : ∀ (x : Nat), x ≤ 20 → x ≤ sizeLine := fun x h => le_line (by omega)
  obtain ⟨one, m1, e1⟩ := name_at (i := seed) hne
  obtain ⟨other, m2, e2⟩ := name_at (i := seed / 3 + 1) hne
  obtain ⟨num, m3, e3⟩ := num_at (mod_of (i := seed / 2) (n := 6) (by decide)).1 (mod_of (i := seed / 2) (n := 6) (by decide)).2
  refine ⟨_, (pss_cons (ps_set (i := 2) sc__law_asking.nd rfl (Or.inl rfl) (pe_ix ix_list (pv 0) (pe_op op_mod (pv 1) (pe_callB call_len_seq rfl T.len PySem.boot_len (pa_conN (pv 0) pa_nil))) (fun _ _ => rfl)))
    (pss_cons (ps_set (i := 3) sc__law_asking.nd rfl (Or.inl rfl) (pe_ix ix_list (pv 0) (pe_op op_mod (pe_op op_add (pe_op op_fdiv (pv 1) pe_int) pe_int) (pe_callB call_len_seq rfl T.len PySem.boot_len (pa_conN (pv 0) pa_nil))) (fun _ _ => rfl)))
    (pss_cons (ps_set (i := 4) sc__law_asking.nd rfl (Or.inl rfl) (pe_ix ix_list (pe_lst (pa_conC pe_int (pa_conC pe_int (pa_conU (pe_un un_neg pe_int) (pa_conC pe_int (pa_conB (pe_powC ⟨by decide, by decide, by decide⟩) (pa_conC pe_int pa_nil))))))) (pe_op op_mod (pe_op op_fdiv (pv 1) pe_int) pe_int) (fun _ _ => rfl)))
    (pss_cons (ps_set (i := 5) sc__law_asking.nd rfl (Or.inl rfl) (pe_tup (pa_conC pe_str (pa_conN (pv 2) (pa_conN (pv 4) pa_nil)))))
    (pss_cons (ps_set (i := 6) sc__law_asking.nd rfl (Or.inl rfl) (pe_tup (pa_conC pe_str (pa_conN (pv 2) (pa_conN (pv 3) pa_nil)))))
    (pss_cons (ps_set (i := 7) sc__law_asking.nd rfl (Or.inl rfl) (pe_lst (pa_conN (pv 5) (pa_conN (pv 6) (pa_conT (pe_tup (pa_conC pe_str (pa_conT (pe_tup (pa_conC pe_str (pa_conN (pv 3) (pa_conN (pv 4) pa_nil)))) (pa_conT (pe_tup (pa_conC pe_str (pa_conN (pv 5) pa_nil))) pa_nil)))) pa_nil)))))
    (pss_cons (ps_set (i := 7) sc__law_asking.nd rfl (Or.inl rfl) (pe_op op_cat (pv 7) (pe_lst (pa_conT (pe_tup (pa_conC pe_str (pa_conN (pv 5) (pa_conN (pv 6) pa_nil)))) (pa_conT (pe_tup (pa_conC pe_str (pa_conT (pe_tup (pa_conC pe_str (pa_conN (pv 4) (pa_conN (pv 3) pa_nil)))) pa_nil))) pa_nil)))))
    (pss_cons (ps_set (i := 7) sc__law_asking.nd rfl (Or.inl rfl) (pe_op op_cat (pv 7) (pe_lst (pa_conT (pe_tup (pa_conC pe_str (pa_conT (pe_tup (pa_conC pe_str (pa_conN (pv 2) (pa_conN (pv 3) pa_nil)))) (pa_conT (pe_tup (pa_conC pe_str (pa_conN (pv 6) (pa_conN (pv 5) pa_nil)))) pa_nil)))) pa_nil))))
    (pss_cons (ps_set (i := 7) sc__law_asking.nd rfl (Or.inl rfl) (pe_op op_cat (pv 7) (pe_lst (pa_conT (pe_tup (pa_conC pe_str (pa_conN (pv 4) (pa_conC pe_int pa_nil)))) (pa_conN (pv 6) (pa_conT (pe_tup (pa_conC pe_str (pa_conN (pv 6) (pa_conN (pv 5) pa_nil)))) pa_nil))))))
    (pss_one (ps_ret (pe_ix ix_list (pv 7) (pe_op op_mod (pe_op op_fdiv (pv 1) pe_int) pe_int) (fun _ _ => rfl))))))))))))), ?_⟩
  refine ⟨_, rfl, _, rfl, _, rfl, hp, _, rfl, .inl (SqL.of hh), _, _, rfl, rfl, hlen, hp, _, _, _, rfl, rfl, SqL.of hh, e1, ?_⟩
  refine ⟨_, rfl, _, rfl, _, _, rfl, rfl, ⟨by decide, by decide⟩, _, _, rfl, rfl, _, rfl, hp, _, rfl, .inl (SqL.of hh), _, _, rfl, rfl, hlen, hp, _, _, _, rfl, rfl, SqL.of hh, e2, ?_⟩
  refine ⟨_, rfl, tl 6 (by decide), fun l0 f0 => ?_⟩
  refine alloc_rd (upd _ l0 _) rfl f0 fun H0 n0 x0 => ?_
  replace x0 : H0 l0 = some (.lst (nums.map V.int)) := x0
  refine ⟨_, rfl, _, _, rfl, rfl, ⟨by decide, by decide⟩, _, _, rfl, rfl, (by show (0 : Int) < 6; decide), l0, nums.map V.int, _, _, rfl, rfl, SqL.of x0, e3, ?_⟩
  refine ⟨_, rfl, _, rfl, tl _ (by simp), fun pF f1 => ?_⟩
  refine alloc_rd (upd _ pF _) rfl f1 fun H1 n1 x1 => ?_
  refine ⟨_, rfl, _, rfl, tl _ (by simp), fun pS f2 => ?_⟩
  refine alloc_rd (upd _ pS _) rfl f2 fun H2 n2 x2 => ?_
  refine ⟨_, rfl, _, rfl, _, rfl, _, rfl, tl _ (by simp), fun p3 f3 => ?_⟩
  refine alloc_rd (upd _ p3 _) rfl f3 fun H3 n3 x3 => ?_
  refine ⟨_, rfl, tl _ (by simp), fun p4 f4 => ?_⟩
  refine alloc_rd (upd _ p4 _) rfl f4 fun H4 n4 x4 => ?_
  refine ⟨tl _ (by simp), fun p5 f5 => ?_⟩
  refine alloc_rd (upd _ p5 _) rfl f5 fun H5 n5 x5 => ?_
  refine ⟨tl _ (by simp), fun l6 f6 => ?_⟩
  refine alloc_rd (upd _ l6 _) rfl f6 fun H6 n6 x6 => ?_
  refine ⟨_, rfl, _, rfl, _, rfl, tl _ (by simp), fun p7 f7 => ?_⟩
  refine alloc_rd (upd _ p7 _) rfl f7 fun H7 n7 x7 => ?_
  refine ⟨_, rfl, _, rfl, tl _ (by simp), fun p8 f8 => ?_⟩
  refine alloc_rd (upd _ p8 _) rfl f8 fun H8 n8 x8 => ?_
  refine ⟨tl _ (by simp), fun p9 f9 => ?_⟩
  refine alloc_rd (upd _ p9 _) rfl f9 fun H9 n9 x9 => ?_
  refine ⟨tl _ (by simp), fun l10 f10 => ?_⟩
  refine alloc_rd (upd _ l10 _) rfl f10 fun H10 n10 x10 => ?_
  refine ⟨l6, l10, _, _, rfl, rfl, (n10 _ _ (n9 _ _ (n8 _ _ (n7 _ _ x6)))), x10, tl _ (by simp), fun l11 f11 => ?_⟩
  refine alloc_rd (upd _ l11 _) rfl f11 fun H11 n11 x11 => ?_
  refine ⟨_, rfl, _, rfl, _, rfl, tl _ (by simp), fun p12 f12 => ?_⟩
  refine alloc_rd (upd _ p12 _) rfl f12 fun H12 n12 x12 => ?_
  refine ⟨_, rfl, _, rfl, tl _ (by simp), fun p13 f13 => ?_⟩
  refine alloc_rd (upd _ p13 _) rfl f13 fun H13 n13 x13 => ?_
  refine ⟨tl _ (by simp), fun p14 f14 => ?_⟩
  refine alloc_rd (upd _ p14 _) rfl f14 fun H14 n14 x14 => ?_
  refine ⟨tl _ (by simp), fun l15 f15 => ?_⟩
  refine alloc_rd (upd _ l15 _) rfl f15 fun H15 n15 x15 => ?_
  refine ⟨l11, l15, _, _, rfl, rfl, (n15 _ _ (n14 _ _ (n13 _ _ (n12 _ _ x11)))), x15, tl _ (by simp), fun l16 f16 => ?_⟩
  refine alloc_rd (upd _ l16 _) rfl f16 fun H16 n16 x16 => ?_
  refine ⟨_, rfl, _, rfl, tl _ (by simp), fun p17 f17 => ?_⟩
  refine alloc_rd (upd _ p17 _) rfl f17 fun H17 n17 x17 => ?_
  refine ⟨_, rfl, _, rfl, _, rfl, tl _ (by simp), fun p18 f18 => ?_⟩
  refine alloc_rd (upd _ p18 _) rfl f18 fun H18 n18 x18 => ?_
  refine ⟨tl _ (by simp), fun l19 f19 => ?_⟩
  refine alloc_rd (upd _ l19 _) rfl f19 fun H19 n19 x19 => ?_
  refine ⟨l16, l19, _, _, rfl, rfl, (n19 _ _ (n18 _ _ (n17 _ _ x16))), x19, tl _ (by simp), fun l20 f20 => ?_⟩
  refine alloc_rd (upd _ l20 _) rfl f20 fun H20 n20 x20 => ?_
  have y1 := (n20 _ _ (n19 _ _ (n18 _ _ (n17 _ _ (n16 _ _ (n15 _ _ (n14 _ _ (n13 _ _ (n12 _ _ (n11 _ _ (n10 _ _ (n9 _ _ (n8 _ _ (n7 _ _ (n6 _ _ (n5 _ _ (n4 _ _ (n3 _ _ (n2 _ _ x1)))))))))))))))))))
  have y2 := (n20 _ _ (n19 _ _ (n18 _ _ (n17 _ _ (n16 _ _ (n15 _ _ (n14 _ _ (n13 _ _ (n12 _ _ (n11 _ _ (n10 _ _ (n9 _ _ (n8 _ _ (n7 _ _ (n6 _ _ (n5 _ _ (n4 _ _ (n3 _ _ x2))))))))))))))))))
  have y3 := (n20 _ _ (n19 _ _ (n18 _ _ (n17 _ _ (n16 _ _ (n15 _ _ (n14 _ _ (n13 _ _ (n12 _ _ (n11 _ _ (n10 _ _ (n9 _ _ (n8 _ _ (n7 _ _ (n6 _ _ (n5 _ _ (n4 _ _ x3)))))))))))))))))
  have y4 := (n20 _ _ (n19 _ _ (n18 _ _ (n17 _ _ (n16 _ _ (n15 _ _ (n14 _ _ (n13 _ _ (n12 _ _ (n11 _ _ (n10 _ _ (n9 _ _ (n8 _ _ (n7 _ _ (n6 _ _ (n5 _ _ x4))))))))))))))))
  have y5 := (n20 _ _ (n19 _ _ (n18 _ _ (n17 _ _ (n16 _ _ (n15 _ _ (n14 _ _ (n13 _ _ (n12 _ _ (n11 _ _ (n10 _ _ (n9 _ _ (n8 _ _ (n7 _ _ (n6 _ _ x5)))))))))))))))
  have y6 := (n20 _ _ (n19 _ _ (n18 _ _ (n17 _ _ (n16 _ _ (n15 _ _ (n14 _ _ (n13 _ _ (n12 _ _ (n11 _ _ (n10 _ _ (n9 _ _ (n8 _ _ (n7 _ _ x6))))))))))))))
  have y7 := (n20 _ _ (n19 _ _ (n18 _ _ (n17 _ _ (n16 _ _ (n15 _ _ (n14 _ _ (n13 _ _ (n12 _ _ (n11 _ _ (n10 _ _ (n9 _ _ (n8 _ _ x7)))))))))))))
  have y8 := (n20 _ _ (n19 _ _ (n18 _ _ (n17 _ _ (n16 _ _ (n15 _ _ (n14 _ _ (n13 _ _ (n12 _ _ (n11 _ _ (n10 _ _ (n9 _ _ x8))))))))))))
  have y9 := (n20 _ _ (n19 _ _ (n18 _ _ (n17 _ _ (n16 _ _ (n15 _ _ (n14 _ _ (n13 _ _ (n12 _ _ (n11 _ _ (n10 _ _ x9)))))))))))
  have y10 := (n20 _ _ (n19 _ _ (n18 _ _ (n17 _ _ (n16 _ _ (n15 _ _ (n14 _ _ (n13 _ _ (n12 _ _ (n11 _ _ x10))))))))))
  have y11 := (n20 _ _ (n19 _ _ (n18 _ _ (n17 _ _ (n16 _ _ (n15 _ _ (n14 _ _ (n13 _ _ (n12 _ _ x11)))))))))
  have y12 := (n20 _ _ (n19 _ _ (n18 _ _ (n17 _ _ (n16 _ _ (n15 _ _ (n14 _ _ (n13 _ _ x12))))))))
  have y13 := (n20 _ _ (n19 _ _ (n18 _ _ (n17 _ _ (n16 _ _ (n15 _ _ (n14 _ _ x13)))))))
  have y14 := (n20 _ _ (n19 _ _ (n18 _ _ (n17 _ _ (n16 _ _ (n15 _ _ x14))))))
  have y15 := (n20 _ _ (n19 _ _ (n18 _ _ (n17 _ _ (n16 _ _ x15)))))
  have y16 := (n20 _ _ (n19 _ _ (n18 _ _ (n17 _ _ x16))))
  have y17 := (n20 _ _ (n19 _ _ (n18 _ _ x17)))
  have y18 := (n20 _ _ (n19 _ _ x18))
  have y19 := (n20 _ _ x19)
  have sall := n0.trans (n1.trans (n2.trans (n3.trans (n4.trans (n5.trans (n6.trans (n7.trans (n8.trans (n9.trans (n10.trans (n11.trans (n12.trans (n13.trans (n14.trans (n15.trans (n16.trans (n17.trans (n18.trans (n19.trans (n20))))))))))))))))))))
  have cF : CondAt H20 (.less (.nm one) (.nu num)) (.ref pF) := ⟨pF, rfl, y1⟩
  have cS : CondAt H20 (.same (.nm one) (.nm other)) (.ref pS) := ⟨pS, rfl, y2⟩
  have okF : csmall hs (.less (.nm one) (.nu num)) := ⟨m1, m3⟩
  have okS : csmall hs (.same (.nm one) (.nm other)) := ⟨m1, m2⟩
  have one1 : (1 : Int) ∈ nums := by decide +kernel
  obtain ⟨i0, i1⟩ := mod_of (i := seed / 5) (n := 9) (by decide)
  refine ⟨_, rfl, _, rfl, _, _, rfl, rfl, ⟨by decide, by decide⟩, _, _, rfl, rfl, (by show (0 : Int) < 9; decide), ?_⟩
  obtain ⟨ix, hix⟩ : ∃ ix, seed / 5 % 9 = ix := ⟨_, rfl⟩
  rw [hix] at i0 i1
  have cases9 : ix = 0 ∨ ix = 1 ∨ ix = 2 ∨ ix = 3 ∨ ix = 4 ∨ ix = 5 ∨ ix = 6 ∨ ix = 7 ∨ ix = 8 := by omega
  rcases cases9 with rfl | rfl | rfl | rfl | rfl | rfl | rfl | rfl | rfl
  · exact ⟨l20, _, _, _, rfl, rfl, SqL.of x20, (by show atI _ (seed / 5 % 9) = _; rw [hix]; rfl), q _ _ _ sall cF okF (by simp [Cond.size])⟩
  · exact ⟨l20, _, _, _, rfl, rfl, SqL.of x20, (by show atI _ (seed / 5 % 9) = _; rw [hix]; rfl), q _ _ _ sall cS okS (by simp [Cond.size])⟩
  · exact ⟨l20, _, _, _, rfl, rfl, SqL.of x20, (by show atI _ (seed / 5 % 9) = _; rw [hix]; rfl), q _ (.an (.same (.nm other) (.nu num)) (.no (.less (.nm one) (.nu num)))) _ sall ⟨_, _, _, rfl, y5, ⟨_, rfl, y3⟩, ⟨_, _, rfl, y4, cF⟩⟩ ⟨⟨m2, m3⟩, okF⟩ (by simp only [Cond.size]; decide)⟩
  · exact ⟨l20, _, _, _, rfl, rfl, SqL.of x20, (by show atI _ (seed / 5 % 9) = _; rw [hix]; rfl), q _ (.or (.less (.nm one) (.nu num)) (.same (.nm one) (.nm other))) _ sall ⟨_, _, _, rfl, y7, cF, cS⟩ ⟨okF, okS⟩ (by simp only [Cond.size]; decide)⟩
  · exact ⟨l20, _, _, _, rfl, rfl, SqL.of x20, (by show atI _ (seed / 5 % 9) = _; rw [hix]; rfl), q _ (.no (.less (.nu num) (.nm other))) _ sall ⟨_, _, rfl, y9, ⟨_, rfl, y8⟩⟩ ⟨m3, m2⟩ (by simp only [Cond.size]; decide)⟩
  · exact ⟨l20, _, _, _, rfl, rfl, SqL.of x20, (by show atI _ (seed / 5 % 9) = _; rw [hix]; rfl), q _ (.an (.less (.nm one) (.nm other)) (.or (.same (.nm one) (.nm other)) (.less (.nm one) (.nu num)))) _ sall ⟨_, _, _, rfl, y14, ⟨_, rfl, y12⟩, ⟨_, _, _, rfl, y13, cS, cF⟩⟩ ⟨⟨m1, m2⟩, okS, okF⟩ (by simp only [Cond.size]; decide)⟩
  · exact ⟨l20, _, _, _, rfl, rfl, SqL.of x20, (by show atI _ (seed / 5 % 9) = _; rw [hix]; rfl), q _ (.same (.nu num) (.nu 1)) _ sall ⟨_, rfl, y17⟩ ⟨m3, one1⟩ (by simp only [Cond.size]; decide)⟩
  · exact ⟨l20, _, _, _, rfl, rfl, SqL.of x20, (by show atI _ (seed / 5 % 9) = _; rw [hix]; rfl), q _ _ _ sall cS okS (by simp [Cond.size])⟩
  · exact ⟨l20, _, _, _, rfl, rfl, SqL.of x20, (by show atI _ (seed / 5 % 9) = _; rw [hix]; rfl), q _ (.an (.same (.nm one) (.nm other)) (.less (.nm one) (.nu num))) _ sall ⟨_, _, _, rfl, y18, cS, cF⟩ ⟨okS, okF⟩ (by simp only [Cond.size]; decide)⟩
theorem rows_new {H H' : Hp} {np : Addr} {fs : List (Addr × List Int)} (hnp : H np = none) (n : Same H H') (x : H' np = some (.lst (refs fs))) (hm : ∀ r ∈ fs, H r.1 = some (.lst (r.2.map V.int))) : RowsAt H' np fs :=
  ⟨x, fun r m => ⟨ne_of_none (hm r m) hnp, n _ _ (hm r m)⟩⟩
theorem atI3 {α : Type} {x y z u : α} {r : List α} : atI (x :: y :: z :: u :: r) 3 = some u := atI_nat (j := 3) rfl
theorem filter_take {α : Type} (f : α → Bool) (xs : List α) {i : Nat} {x : α} (h : xs[i]? = some x) : (xs.take (i + 1)).filter f = (xs.take i).filter f ++ (if f x = true then [x] else []) := by
  rw [List.take_add_one, h, List.filter_append]
  congr 1
  show List.filter f [x] = _
  rw [List.filter_cons]
  rfl
theorem filt_snd {hs : List Str} {c : Cond} (rs : List (Addr × List Int)) : (rs.filter fun r => ev hs r.2 c).map (·.2) = (rs.map (·.2)).filter fun r => ev hs r c := by
  rw [List.filter_map]
  rfl
def spPicked (K : PySem.W.Frag) : Sp := fun vs H Q _ => ∃ (th : Str → List Str) (tr : Str → List (List Int)) (q : Qn) (v : V) (seed : Int), vs = [v, .int seed] ∧ TabOk th tr ∧ StAt th tr H v q ∧ okQ th q ∧ (lineOf q).length ≤ 4000000 ∧ (rowsOf th tr q).length ≤ 100000 ∧
  ∀ (v' : V) (c : Cond) (H' : Hp), Same H H' → StAt th tr H' v' (.pick c q) → csmall (headsOf th q) c → c.size ≤ 6 → Q v' H'
theorem sc__law_picked : FnScope ["_law_state", "_law_seed", "_law_condition", "_law_rows", "_law_line"] ["_law_state", "_law_seed"] (defScope s__law_picked) := ⟨rfl, rfl, rfl, by decide +kernel, rfl, by decide +kernel, by decide +kernel⟩
theorem ok__law_picked (F : Fun K "_law_picked" "_law_picked" s__law_picked f fd) (T : Txt K mg) (C_law_asking : Kn P w K mg base 1 "_law_asking" ["_law_heads", "_law_seed"] (spAsking K)) (C_law_true : Kn P w K mg base 7 "_law_true" ["_law_condition", "_law_heads", "_law_row"] (spTrue K 7)) (C_law_spelt : Kn P w K mg base 7 "_law_spelt" ["_law_condition"] (spSpelt K 7)) :
    FnOk P w K mg base CX0 8 f fd ["_law_state", "_law_seed"] (spPicked K) := by
  refine F.ok sc__law_picked (fun vs H Q E h => ?_) (fun cdv A outer s H vs Q E hr h => ?_)
  · obtain ⟨th, tr, q, v, seed, rfl, _⟩ := h
    rfl
  obtain ⟨th, tr, q, v, seed, rfl, TT, hst, hok, hli, hro, fin⟩ := h
  obtain ⟨p, qv, hp, rp, rs, rfl, h1, h2, h3, h4, h5⟩ := hst
  obtain ⟨hne, hnd⟩ := heads_ok TT hok
  have hnl := name_len TT hok
  have hlr : (refs rs).length = rs.length := List.length_map _
  have hrl : rs.length ≤ 100000 := by rw [← h5, List.length_map] at hro; exact hro
  have hu := hu_of hr
  refine ⟨_, (pss_cons (ps_set (i := 2) sc__law_picked.nd rfl (Or.inr rfl) (pe_callF C_law_asking (hr.mono (by first | decide | omega)) rfl (pa_conS (pe_ix ix_tup (pv 0) pe_int (fun _ _ => rfl)) (pa_conN (pv 1) pa_nil))))
    (pss_cons (ps_setComp (j := 3) rfl sc__law_picked.nd rfl (Or.inl rfl) (CompSc.of (sx := defScope s__law_picked) (NX := ["_law_state", "_law_seed", "_law_condition", "_law_rows", "_law_line"]) (fr := ["_law_condition", "_law_state"]) (ix := [2, 0]) rfl rfl (by decide +kernel)) (pi_list (pe_ix ix_tup (pv 0) pe_int (fun _ _ => rfl))) (fun _ _ _ _ _ _ => (pif_one (pt_val (pe_callF C_law_true (hr.mono (by first | decide | omega)) rfl (pa_conN (pv 1) (pa_conS (pe_ix (ix_tupK (K := K) rfl) (pv 2) pe_int (fun _ _ => rfl)) (pa_conN (pv 0) pa_nil))))))) (fun _ _ _ _ _ _ => (pv 0)))
    (pss_cons (ps_ifJ (pt_andP (pt_cmpR (op_eqNil hu) (pv 3) (pe_lst pa_nil) (nomark _)) (pt_cmpR op_gt (pe_op op_mod (pv 1) pe_int) pe_int (nomark _)))
      (pss_cons (ps_set (i := 2) sc__law_picked.nd rfl (Or.inr rfl) (pe_tup (pa_conC pe_str (pa_conN (pv 2) pa_nil))))
      (pss_one (ps_set (i := 3) sc__law_picked.nd rfl (Or.inl rfl) (pe_callTy call_list_of rfl T.list PyProof.Rows.boot_list (pa_conS (pe_ix ix_tup (pv 0) pe_int (fun _ _ => rfl)) pa_nil)))))
      pss_nil)
    (pss_cons (ps_set (i := 4) sc__law_picked.nd rfl (Or.inl rfl) (pe_op op_add_str (pe_op op_add_str (pe_op op_add_str (pe_op op_add_str pe_str (pe_callF C_law_spelt (hr.mono (by first | decide | omega)) rfl (pa_conN (pv 2) pa_nil))) pe_str) (pe_ix ix_tup (pv 0) pe_int (fun _ _ => rfl))) pe_str))
    (pss_one (ps_ret (pe_tup (pa_conT (pe_tup (pa_conC pe_str (pa_conN (pv 2) (pa_conS (pe_ix ix_tup (pv 0) pe_int (fun _ _ => rfl)) pa_nil)))) (pa_conN (pv 4) (pa_conS (pe_ix ix_tup (pv 0) pe_int (fun _ _ => rfl)) (pa_conN (pv 3) pa_nil))))))))))), ?_⟩
  refine ⟨_, rfl, p, _, _, _, rfl, rfl, SqT.of h1, atI2, _, rfl, hp, seed, headsOf th q, rfl, h3, hne, fun cv c H1 s1 hc sm sz => ?_⟩
  have g1 := s1 _ _ h1
  have g4 := h4.same s1
  refine ⟨_, rfl, p, _, _, _, rfl, rfl, SqT.of g1, atI3, rp, rfl, ⟨_, SqL.of g4.1⟩, ?_⟩
  refine comp_list (xs := refs rs) (fun i ys H' => Same H1 H' ∧ ys = refs ((rs.take i).filter fun r => ev (headsOf th q) r.2 c)) ⟨Same.refl _, rfl⟩ ?_ ?_ ?_
  · rintro i ys H' hi ⟨sm', rfl⟩
    refine ⟨SqL.of (sm' _ _ g4.1), lt_line ?_⟩
    have := List.length_filter_le (fun r : Addr × List Int => ev (headsOf th q) r.2 c) (rs.take i)
    rw [List.length_map]
    rw [List.length_take] at this
    omega
  · rintro i x ys H' hi ⟨sm', rfl⟩
    have hir : i < rs.length := by
      have := (List.getElem?_eq_some_iff.mp hi).1
      rwa [hlr] at this
    rw [at_row hir] at hi
    cases hi
    have t := s1.trans sm'
    have hrow := (g4.2 _ (List.getElem_mem hir)).2
    have hlen : rs[i].2.length = (headsOf th q).length := rows_len TT hok _ (by rw [← h5]; exact List.mem_map.mpr ⟨_, List.getElem_mem hir, rfl⟩)
    refine ⟨_, rfl, _, rfl, p, _, _, _, rfl, rfl, SqT.of (t _ _ h1), atI2, _, rfl, cv, hp, rs[i].1, headsOf th q, rs[i].2, c, rfl, hc.same sm', sm, t _ _ h3, sm' _ _ hrow, hlen, by omega, fun H3 s3 => ⟨_, rfl, ?_⟩⟩
    have ft := filter_take (fun r : Addr × List Int => ev (headsOf th q) r.2 c) rs (List.getElem?_eq_getElem hir)
    cases hev : ev (headsOf th q) rs[i].2 c with
    | true =>
      refine ifT rfl ?_
      refine ⟨_, rfl, sm'.trans s3, ?_⟩
      rw [ft, hev, if_pos rfl]
      simp [refs]
    | false =>
      refine ifF rfl ?_
      refine ⟨sm'.trans s3, ?_⟩
      rw [ft, hev]
      simp
  · rintro ys H' ⟨sm', rfl⟩ np hnp
    rw [hlr, List.take_length]
    refine alloc_rd (upd _ np _) rfl hnp fun H2 n2 x2 => ?_
    have rp0 := rows_new hnp n2 x2 fun r m => sm' _ _ (g4.2 r (List.mem_filter.mp m).1).2
    have s2 := s1.trans (sm'.trans n2)
    have hc2 := hc.same (sm'.trans n2)
    have g2 := s2 _ _ h1
    have j2 := h4.same s2
    refine ⟨fun σ H3 => ∃ (cv' : V) (c' : Cond) (np' : Addr) (fs : List (Addr × List Int)), σ = [some (.ref p), some (.int seed), some cv', some (.ref np'), none] ∧ Same H H3 ∧ CondAt H3 c' cv' ∧ csmall (headsOf th q) c' ∧ c'.size ≤ 6 ∧ RowsAt H3 np' fs ∧ fs.map (·.2) = rowsOf th tr (.pick c' q), ?_, ?_⟩
    · refine ⟨_, rfl, le_line (by show 0 ≤ _; decide), fun ep hep => ?_⟩
      refine alloc_rd (upd _ ep _) rfl hep fun H3 n3 x3 => ?_
      refine ⟨np, ep, _, rfl, rfl, SqL.of (n3 _ _ x2), SqL.of x3, _, rfl, _, ⟨_, rfl, _, _, rfl, rfl, (by show (0 : Int) < 3; decide), _, _, rfl, rfl, _, rfl, rfl, rfl⟩, ?_⟩
      have s3 := s2.trans n3
      refine ite2 (fun hb => ?_) (fun hb => ?_)
      · rw [Bool.and_eq_true] at hb
        have hnil : (rs.filter fun r => ev (headsOf th q) r.2 c) = [] := by
          have := hb.1
          rw [List.isEmpty_iff] at this
          exact List.map_eq_nil_iff.mp this
        refine ⟨_, rfl, le_line (by show 2 ≤ _; decide), fun kp hkp => ?_⟩
        refine alloc_rd (upd _ kp _) rfl hkp fun H4 n4 x4 => ?_
        have s4 := s3.trans n4
        refine ⟨_, rfl, p, _, _, _, rfl, rfl, SqT.of (s4 _ _ h1), atI3, rp, _, rfl, .inl (SqL.of (h4.same s4).1), fun dp hdp => ?_⟩
        have j4 := h4.same s4
        refine alloc_rd (upd _ dp _) rfl hdp fun H5 n5 x5 => ?_
        have rp1 := rows_new hdp n5 x5 fun r m => (j4.2 r m).2
        refine ⟨_, .no c, dp, rs, rfl, s4.trans n5, ⟨kp, cv, rfl, n5 _ _ x4, hc2.same (n3.trans (n4.trans n5))⟩, sm, by simp only [Cond.size]; omega, rp1, ?_⟩
        show _ = (rowsOf th tr q).filter fun r => ev (headsOf th q) r (.no c)
        rw [h5, eq_comm, List.filter_eq_self]
        intro r hr'
        rw [← h5] at hr'
        obtain ⟨x, hx, rfl⟩ := List.mem_map.mp hr'
        have := List.filter_eq_nil_iff.mp hnil x hx
        show (!ev (headsOf th q) x.2 c) = true
        simpa using this
      · refine ⟨_, c, np, _, rfl, s3, hc2.same n3, sm, by omega, rp0.same n3, ?_⟩
        rw [filt_snd, h5]
        rfl
    · rintro σ H3 ⟨cv', c', np', fs, rfl, s3, hc3, sm3, sz3, rp3, e3⟩
      have ls := spell_len hnl sm3
      have g3 := s3 _ _ h1
      refine ⟨_, rfl, cv', headsOf th q, c', rfl, hc3, sm3, hnl, by omega, by omega, fun H4 s4 => ?_⟩
      have g4' := s4 _ _ g3
      refine ⟨_, _, rfl, rfl, by (simp only [Str.length_append, l_open, l_close, l_blank, l_less, l_same, l_not, l_and, l_or, l_pick, l_cols, l_sort, l_first, l_both, l_pair, l_join, l_group, l_picks, l_cb, l_n, l_s, l_bn, l_bs, PySem.sizeLine_eq]; try omega), _, _, rfl, rfl, by (simp only [Str.length_append, l_open, l_close, l_blank, l_less, l_same, l_not, l_and, l_or, l_pick, l_cols, l_sort, l_first, l_both, l_pair, l_join, l_group, l_picks, l_cb, l_n, l_s, l_bn, l_bs, PySem.sizeLine_eq]; try omega), _, rfl, p, _, _, _, rfl, rfl, SqT.of g4', atI1, _, _, rfl, rfl, by (simp only [Str.length_append, l_open, l_close, l_blank, l_less, l_same, l_not, l_and, l_or, l_pick, l_cols, l_sort, l_first, l_both, l_pair, l_join, l_group, l_picks, l_cb, l_n, l_s, l_bn, l_bs, PySem.sizeLine_eq]; try omega), _, _, rfl, rfl, by (simp only [Str.length_append, l_open, l_close, l_blank, l_less, l_same, l_not, l_and, l_or, l_pick, l_cols, l_sort, l_first, l_both, l_pair, l_join, l_group, l_picks, l_cb, l_n, l_s, l_bn, l_bs, PySem.sizeLine_eq]; try omega), ?_⟩
      refine ⟨_, rfl, _, rfl, p, _, _, _, rfl, rfl, SqT.of g4', atI0, le_line (by show 3 ≤ _; decide), fun qp hqp => ?_⟩
      refine alloc_rd (upd _ qp _) rfl hqp fun H5 n5 x5 => ?_
      refine ⟨_, rfl, _, rfl, p, _, _, _, rfl, rfl, SqT.of (n5 _ _ g4'), atI2, _, rfl, le_line (by show 4 ≤ _; decide), fun sp hsp => ?_⟩
      refine alloc_rd (upd _ sp _) rfl hsp fun H6 n6 x6 => ?_
      have s46 := s4.trans (n5.trans n6)
      have s6 := s3.trans s46
      exact fin _ c' _ s6 ⟨sp, _, hp, np', fs, rfl, x6, ⟨qp, cv', qv, rfl, n6 _ _ x5, hc3.same s46, h2.same s6⟩, s6 _ _ h3, rp3.same s46, e3⟩ sm3 sz3
theorem cut_first {xs : List V} {m : Int} (h : 0 ≤ m) : cutV xs none (some m) = xs.take m.toNat := by
  unfold cutV
  rw [HT.sIx_none, List.drop_zero, Nat.sub_zero]
  have e : HT.sIx xs.length xs.length (some m) = min m.toNat xs.length := by
    show (if m < 0 then (m + (xs.length : Int)).toNat else min m.toNat xs.length) = _
    rw [if_neg (by omega)]
  rw [e, List.take_eq_take_iff]
  omega
theorem many_at {xs : List Int} {i : Int} (hx : ∀ m ∈ xs, m ∈ manys) (h0 : 0 ≤ i) (h1 : i < (xs.length : Int)) : ∃ m ∈ manys, atI (xs.map V.int) i = some (.int m) := by
  obtain ⟨h, e⟩ := atI_of (xs := xs.map V.int) h0 (by rw [List.length_map]; exact h1)
  have h' : i.toNat < xs.length := by simpa using h
  refine ⟨xs[i.toNat], hx _ (List.getElem_mem _), ?_⟩
  rw [e, List.getElem_map]
def manyA : List Int := [9, 1, 5, 3, 12, 7, 0, 10 ^ 9]
def manyB : List Int := [4, 0, 2, 3, 8, 7, 10 ^ 9]
theorem manyA_in : ∀ m ∈ manyA, m ∈ manys := by decide +kernel
theorem manyB_in : ∀ m ∈ manyB, m ∈ manys := by decide +kernel
theorem A_len : (manyA.length : Int) = 8 := rfl
theorem B_len : (manyB.length : Int) = 7 := rfl
theorem manyA_at (i : Int) : ∃ m ∈ manys, atI (manyA.map V.int) (i % 8) = some (.int m) := many_at manyA_in (mod_of (by decide)).1 (by rw [A_len]; exact (mod_of (by decide)).2)
theorem manyB_at (i : Int) : ∃ m ∈ manys, atI (manyB.map V.int) (i % 7) = some (.int m) := many_at manyB_in (mod_of (by decide)).1 (by rw [B_len]; exact (mod_of (by decide)).2)
theorem litA {H0 : Hp} {l0 : Addr} (x0 : H0 l0 = some (HO.lst [V.int 9, V.int 1, V.int 5, V.int 3, V.int 12, V.int 7, V.int 0, V.int ((10 : Int) ^ (9 : Int).toNat)])) : H0 l0 = some (.lst (manyA.map V.int)) := x0
theorem litB {H0 : Hp} {l0 : Addr} (x0 : H0 l0 = some (HO.lst [V.int 4, V.int 0, V.int 2, V.int 3, V.int 8, V.int 7, V.int ((10 : Int) ^ (9 : Int).toNat)])) : H0 l0 = some (.lst (manyB.map V.int)) := x0
theorem manys_pos : ∀ m ∈ manys, 0 ≤ m := by decide +kernel
theorem many_str {m : Int} (h : m ∈ manys) : StrOf (.int m) (toString m) := .inl ⟨m, rfl, (many_len m h).2, rfl⟩
def spHeaded (K : PySem.W.Frag) : Sp := fun vs H Q _ => ∃ (th : Str → List Str) (tr : Str → List (List Int)) (q : Qn) (v : V) (seed : Int), vs = [v, .int seed] ∧ StAt th tr H v q ∧ (lineOf q).length ≤ 4000000 ∧
  ∀ (v' : V) (q' : Qn) (H' : Hp), Same H H' → StAt th tr H' v' q' → (∃ n ∈ manys, q' = .first n q ∨ ∃ m ∈ manys, q' = .first m (.first n q)) → Q v' H'
theorem rows_take {H : Hp} {rp : Addr} {rs : List (Addr × List Int)} (n : Nat) (h : RowsAt H rp rs) : ∀ r ∈ rs.take n, H r.1 = some (.lst (r.2.map V.int)) := fun r m => (h.2 r (List.mem_of_mem_take m)).2
theorem sc__law_headed : FnScope ["_law_state", "_law_seed", "_law_many", "_law_line", "_law_question", "_law_rows", "_law_more"] ["_law_state", "_law_seed"] (defScope s__law_headed) := ⟨rfl, rfl, rfl, by decide +kernel, rfl, by decide +kernel, by decide +kernel⟩
theorem ok__law_headed (F : Fun K "_law_headed" "_law_headed" s__law_headed f fd) (T : Txt K mg) : FnOk P w K mg base CX0 1 f fd ["_law_state", "_law_seed"] (spHeaded K) := by
  refine F.ok sc__law_headed (fun vs H Q E h => ?_) (fun cdv A outer s H vs Q E hr h => ?_)
  · obtain ⟨th, tr, q, v, seed, rfl, _⟩ := h
    rfl
  obtain ⟨th, tr, q, v, seed, rfl, hst, hli, fin⟩ := h
  obtain ⟨p, qv, hp, rp, rs, rfl, h1, h2, h3, h4, h5⟩ := hst
  obtain ⟨m, mm, e1⟩ := manyA_at (seed / 2)
  obtain ⟨m', mm', e2⟩ := manyB_at (seed / 16 + seed)
  have ll := (many_len m mm).1
  have ll' := (many_len m' mm').1
  have p0 := manys_pos m mm
  have p0' := manys_pos m' mm'
  refine ⟨_, (pss_cons (ps_set (i := 2) sc__law_headed.nd rfl (Or.inl rfl) (pe_ix ix_list (pe_lst (pa_conC pe_int (pa_conC pe_int (pa_conC pe_int (pa_conC pe_int (pa_conC pe_int (pa_conC pe_int (pa_conC pe_int (pa_conB (pe_powC ⟨by decide, by decide, by decide⟩) pa_nil))))))))) (pe_op op_mod (pe_op op_fdiv (pv 1) pe_int) pe_int) (fun _ _ => rfl)))
    (pss_cons (ps_set (i := 3) sc__law_headed.nd rfl (Or.inl rfl) (pe_op op_add_str (pe_op op_add_str (pe_op op_add_str (pe_op op_add_str pe_str (pe_callTy call_strV rfl T.str PyProof.Rows.boot_str (pa_conN (pv 2) pa_nil))) pe_str) (pe_ix ix_tup (pv 0) pe_int (fun _ _ => rfl))) pe_str))
    (pss_cons (ps_set (i := 4) sc__law_headed.nd rfl (Or.inl rfl) (pe_tup (pa_conC pe_str (pa_conN (pv 2) (pa_conS (pe_ix ix_tup (pv 0) pe_int (fun _ _ => rfl)) pa_nil)))))
    (pss_cons (ps_set (i := 5) sc__law_headed.nd rfl (Or.inl rfl) (pe_slice sl_list (pe_ix ix_tup (pv 0) pe_int (fun _ _ => rfl)) po_none (po_some (pv 2))))
    (pss_cons (ps_if (pt_cmpR op_eq (pe_op op_mod (pv 1) pe_int) pe_int (nomark _))
      (pss_cons (ps_set (i := 6) sc__law_headed.nd rfl (Or.inl rfl) (pe_ix ix_list (pe_lst (pa_conC pe_int (pa_conC pe_int (pa_conC pe_int (pa_conC pe_int (pa_conC pe_int (pa_conC pe_int (pa_conB (pe_powC ⟨by decide, by decide, by decide⟩) pa_nil)))))))) (pe_op op_mod (pe_op op_add (pe_op op_fdiv (pv 1) pe_int) (pv 1)) pe_int) (fun _ _ => rfl)))
      (pss_cons (ps_set (i := 3) sc__law_headed.nd rfl (Or.inl rfl) (pe_op op_add_str (pe_op op_add_str (pe_op op_add_str (pe_op op_add_str pe_str (pe_callTy call_strV rfl T.str PyProof.Rows.boot_str (pa_conN (pv 6) pa_nil))) pe_str) (pv 3)) pe_str))
      (pss_cons (ps_set (i := 4) sc__law_headed.nd rfl (Or.inl rfl) (pe_tup (pa_conC pe_str (pa_conN (pv 6) (pa_conN (pv 4) pa_nil)))))
      (pss_one (ps_set (i := 5) sc__law_headed.nd rfl (Or.inl rfl) (pe_slice sl_list (pv 5) po_none (po_some (pv 6))))))))
      pss_nil)
    (pss_one (ps_ret (pe_tup (pa_conN (pv 4) (pa_conN (pv 3) (pa_conS (pe_ix ix_tup (pv 0) pe_int (fun _ _ => rfl)) (pa_conN (pv 5) pa_nil)))))))))))), ?_⟩
  refine ⟨le_line (by show 8 ≤ _; decide), fun l0 f0 => ?_⟩
  refine alloc_rd (upd _ l0 _) rfl f0 fun H0 n0 x0 => ?_
  replace x0 := litA x0
  refine ⟨_, rfl, _, _, rfl, rfl, ⟨by decide, by decide⟩, _, _, rfl, rfl, (by show (0 : Int) < 8; decide), l0, _, _, _, rfl, rfl, SqL.of x0, e1, ?_⟩
  refine ⟨_, rfl, _, _, rfl, many_str mm, _, _, rfl, rfl, by (simp only [Str.length_append, l_open, l_close, l_blank, l_less, l_same, l_not, l_and, l_or, l_pick, l_cols, l_sort, l_first, l_both, l_pair, l_join, l_group, l_picks, l_cb, l_n, l_s, l_bn, l_bs, PySem.sizeLine_eq]; try omega), _, _, rfl, rfl, by (simp only [Str.length_append, l_open, l_close, l_blank, l_less, l_same, l_not, l_and, l_or, l_pick, l_cols, l_sort, l_first, l_both, l_pair, l_join, l_group, l_picks, l_cb, l_n, l_s, l_bn, l_bs, PySem.sizeLine_eq]; try omega), _, rfl, p, _, _, _, rfl, rfl, SqT.of (n0 _ _ h1), atI1, _, _, rfl, rfl, by (simp only [Str.length_append, l_open, l_close, l_blank, l_less, l_same, l_not, l_and, l_or, l_pick, l_cols, l_sort, l_first, l_both, l_pair, l_join, l_group, l_picks, l_cb, l_n, l_s, l_bn, l_bs, PySem.sizeLine_eq]; try omega), _, _, rfl, rfl, by (simp only [Str.length_append, l_open, l_close, l_blank, l_less, l_same, l_not, l_and, l_or, l_pick, l_cols, l_sort, l_first, l_both, l_pair, l_join, l_group, l_picks, l_cb, l_n, l_s, l_bn, l_bs, PySem.sizeLine_eq]; try omega), ?_⟩
  refine ⟨_, rfl, _, rfl, p, _, _, _, rfl, rfl, SqT.of (n0 _ _ h1), atI0, le_line (by show 3 ≤ _; decide), fun q1 f1 => ?_⟩
  refine alloc_rd (upd _ q1 _) rfl f1 fun H1 n1 x1 => ?_
  have s1 := n0.trans n1
  have j1 := h4.same s1
  refine ⟨_, rfl, p, _, _, _, rfl, rfl, SqT.of (s1 _ _ h1), atI3, _, rfl, _, rfl, rp, _, rfl, SqL.of j1.1, fun r2 f2 => ?_⟩
  rw [cut_first p0, ← List.map_take]
  refine alloc_rd (upd _ r2 _) rfl f2 fun H2 n2 x2 => ?_
  have s2 := s1.trans n2
  have w2 := rows_new f2 n2 x2 (rows_take _ j1)
  have qa2 : QAt H2 (.first m q) (.ref q1) := ⟨q1, qv, rfl, n2 _ _ x1, h2.same s2⟩
  have er2 : (rs.take m.toNat).map (·.2) = rowsOf th tr (.first m q) := by
    rw [List.map_take, h5]
    rfl
  have hln : (lineOf (.first m q)).length ≤ 4000100 := by simp only [lineOf]; (simp only [Str.length_append, l_open, l_close, l_blank, l_less, l_same, l_not, l_and, l_or, l_pick, l_cols, l_sort, l_first, l_both, l_pair, l_join, l_group, l_picks, l_cb, l_n, l_s, l_bn, l_bs, PySem.sizeLine_eq]; try omega)
  refine ⟨_, rfl, _, _, rfl, rfl, (by show (0 : Int) < 2; decide), rfl, _, rfl, ?_⟩
  refine ite2 (fun hb => ?_) (fun hb => ?_)
  · refine ⟨le_line (by show 7 ≤ _; decide), fun l3 f3 => ?_⟩
    refine alloc_rd (upd _ l3 _) rfl f3 fun H3 n3 x3 => ?_
    replace x3 := litB x3
    refine ⟨_, rfl, _, _, rfl, rfl, ⟨by decide, by decide⟩, _, rfl, _, _, rfl, rfl, _, _, rfl, rfl, (by show (0 : Int) < 7; decide), l3, _, _, _, rfl, rfl, SqL.of x3, e2, ?_⟩
    refine ⟨_, rfl, _, _, rfl, many_str mm', _, _, rfl, rfl, by (simp only [Str.length_append, l_open, l_close, l_blank, l_less, l_same, l_not, l_and, l_or, l_pick, l_cols, l_sort, l_first, l_both, l_pair, l_join, l_group, l_picks, l_cb, l_n, l_s, l_bn, l_bs, PySem.sizeLine_eq]; try omega), _, _, rfl, rfl, by (simp only [Str.length_append, l_open, l_close, l_blank, l_less, l_same, l_not, l_and, l_or, l_pick, l_cols, l_sort, l_first, l_both, l_pair, l_join, l_group, l_picks, l_cb, l_n, l_s, l_bn, l_bs, PySem.sizeLine_eq]; try omega), _, rfl, _, (lineOf (.first m q)), rfl, rfl, by (simp only [Str.length_append, l_open, l_close, l_blank, l_less, l_same, l_not, l_and, l_or, l_pick, l_cols, l_sort, l_first, l_both, l_pair, l_join, l_group, l_picks, l_cb, l_n, l_s, l_bn, l_bs, PySem.sizeLine_eq]; try omega), _, _, rfl, rfl, by (simp only [Str.length_append, l_open, l_close, l_blank, l_less, l_same, l_not, l_and, l_or, l_pick, l_cols, l_sort, l_first, l_both, l_pair, l_join, l_group, l_picks, l_cb, l_n, l_s, l_bn, l_bs, PySem.sizeLine_eq]; try omega), ?_⟩
    refine ⟨_, rfl, _, rfl, le_line (by show 3 ≤ _; decide), fun q4 f4 => ?_⟩
    refine alloc_rd (upd _ q4 _) rfl f4 fun H4 n4 x4 => ?_
    have s24 := n3.trans n4
    have w4 := w2.same s24
    refine ⟨_, rfl, _, rfl, _, rfl, r2, _, rfl, SqL.of w4.1, fun r5 f5 => ?_⟩
    rw [cut_first p0', ← List.map_take]
    refine alloc_rd (upd _ r5 _) rfl f5 fun H5 n5 x5 => ?_
    have w5 := rows_new f5 n5 x5 (rows_take _ w4)
    have s25 := s24.trans n5
    have s5 := s2.trans s25
    refine ⟨_, rfl, _, rfl, _, rfl, p, _, _, _, rfl, rfl, SqT.of (s5 _ _ h1), atI2, _, rfl, le_line (by show 4 ≤ _; decide), fun sp f6 => ?_⟩
    refine alloc_rd (upd _ sp _) rfl f6 fun H6 n6 x6 => ?_
    have s6 := s5.trans n6
    refine fin _ (.first m' (.first m q)) _ s6 ⟨sp, _, hp, r5, _, rfl, x6, ⟨q4, _, rfl, n6 _ _ (n5 _ _ x4), qa2.same (s25.trans n6)⟩, s6 _ _ h3, w5.same n6, ?_⟩ ⟨m, mm, .inr ⟨m', mm', rfl⟩⟩
    rw [List.map_take, er2]
    rfl
  · refine ⟨_, rfl, _, rfl, _, rfl, p, _, _, _, rfl, rfl, SqT.of (s2 _ _ h1), atI2, _, rfl, le_line (by show 4 ≤ _; decide), fun sp f6 => ?_⟩
    refine alloc_rd (upd _ sp _) rfl f6 fun H6 n6 x6 => ?_
    have s6 := s2.trans n6
    exact fin _ (.first m q) _ s6 ⟨sp, _, hp, r2, _, rfl, x6, qa2.same n6, s6 _ _ h3, w2.same n6, er2⟩ ⟨m, mm, .inl rfl⟩
theorem both_at {th : Str → List Str} {tr : Str → List (List Int)} {H H' : Hp} {sp qp hp np x y : Addr} {qo qt : Qn} {qv rv : V} {fs gs : List (Addr × List Int)} (s : Same H H') (hsp : H' sp = some (.tup [.ref qp, .str (lineOf (.both qo qt)), .ref hp, .ref np])) (hqp : H' qp = some (.tup [.str "both", qv, rv])) (h1 : QAt H' qo qv) (h2 : QAt H' qt rv)
    (hh : H' hp = some (.lst ((headsOf th qo).map V.str))) (hr : RowsAt H' np (fs ++ gs)) (e1 : fs.map (·.2) = rowsOf th tr qo) (e2 : gs.map (·.2) = rowsOf th tr qt) : StAt th tr H' (.ref sp) (.both qo qt) :=
  ⟨sp, _, hp, np, _, rfl, hsp, ⟨qp, qv, rv, rfl, hqp, h1, h2⟩, hh, hr, by rw [List.map_append, e1, e2]; rfl⟩
theorem rows_cat {H H' : Hp} {np a b : Addr} {fs gs : List (Addr × List Int)} (hnp : H np = none) (n : Same H H') (x : H' np = some (.lst (refs fs ++ refs gs))) (h1 : RowsAt H a fs) (h2 : RowsAt H b gs) : RowsAt H' np (fs ++ gs) :=
  rows_new hnp n (by rw [x]; simp [refs]) fun r m => by
    rcases List.mem_append.mp m with m | m
    · exact (h1.2 r m).2
    · exact (h2.2 r m).2
theorem pick_len {th : Str → List Str} {c : Cond} {q : Qn} (hnl : ∀ s ∈ headsOf th q, s.length ≤ 10) (sm : csmall (headsOf th q) c) (sz : c.size ≤ 6) : (lineOf (.pick c q)).length ≤ (lineOf q).length + 1000 := by
  have ls := spell_len hnl sm
  simp only [lineOf]
  (simp only [Str.length_append, l_open, l_close, l_blank, l_less, l_same, l_not, l_and, l_or, l_pick, l_cols, l_sort, l_first, l_both, l_pair, l_join, l_group, l_picks, l_cb, l_n, l_s, l_bn, l_bs, PySem.sizeLine_eq]; try omega)
def spDoubled (K : PySem.W.Frag) : Sp := fun vs H Q _ => ∃ (th : Str → List Str) (tr : Str → List (List Int)) (q : Qn) (v : V) (seed : Int), vs = [v, .int seed] ∧ TabOk th tr ∧ StAt th tr H v q ∧ okQ th q ∧ (lineOf q).length ≤ 4000000 ∧ (rowsOf th tr q).length ≤ 100000 ∧
  ∀ (v' : V) (q' : Qn) (c : Cond) (H' : Hp), Same H H' → StAt th tr H' v' q' → csmall (headsOf th q) c → c.size ≤ 6 → (q' = .both q (.pick c q) ∨ q' = .both (.pick c q) q) → Q v' H'
theorem sc__law_doubled : FnScope ["_law_state", "_law_seed", "_law_one", "_law_other", "_law_line"] ["_law_state", "_law_seed"] (defScope s__law_doubled) := ⟨rfl, rfl, rfl, by decide +kernel, rfl, by decide +kernel, by decide +kernel⟩
theorem ok__law_doubled (F : Fun K "_law_doubled" "_law_doubled" s__law_doubled f fd) (T : Txt K mg) (C_law_picked : Kn P w K mg base 8 "_law_picked" ["_law_state", "_law_seed"] (spPicked K)) : FnOk P w K mg base CX0 9 f fd ["_law_state", "_law_seed"] (spDoubled K) := by
  refine F.ok sc__law_doubled (fun vs H Q E h => ?_) (fun cdv A outer s H vs Q E hr h => ?_)
  · obtain ⟨th, tr, q, v, seed, rfl, _⟩ := h
    rfl
  obtain ⟨th, tr, q, v, seed, rfl, TT, hst, hok, hli, hro, fin⟩ := h
  have hnl := name_len TT hok
  refine ⟨_, (pss_cons (ps_set (i := 2) sc__law_doubled.nd rfl (Or.inl rfl) (pv 0))
    (pss_cons (ps_set (i := 3) sc__law_doubled.nd rfl (Or.inl rfl) (pe_callF C_law_picked (hr.mono (by first | decide | omega)) rfl (pa_conN (pv 0) (pa_conN (pv 1) pa_nil))))
    (pss_cons (ps_ifJ (pt_cmpR op_eq (pe_op op_mod (pe_op op_fdiv (pv 1) pe_int) pe_int) pe_int (nomark _))
      (pss_cons (ps_set (i := 2) sc__law_doubled.nd rfl (Or.inl rfl) (pv 3))
      (pss_one (ps_set (i := 3) sc__law_doubled.nd rfl (Or.inl rfl) (pv 0))))
      pss_nil)
    (pss_cons (ps_set (i := 4) sc__law_doubled.nd rfl (Or.inl rfl) (pe_op op_add_str (pe_op op_add_str (pe_op op_add_str (pe_op op_add_str pe_str (pe_ix ix_tup (pv 2) pe_int (fun _ _ => rfl))) pe_str) (pe_ix ix_tup (pv 3) pe_int (fun _ _ => rfl))) pe_str))
    (pss_one (ps_ret (pe_tup (pa_conT (pe_tup (pa_conC pe_str (pa_conS (pe_ix ix_tup (pv 2) pe_int (fun _ _ => rfl)) (pa_conS (pe_ix ix_tup (pv 3) pe_int (fun _ _ => rfl)) pa_nil)))) (pa_conN (pv 4) (pa_conS (pe_ix ix_tup (pv 0) pe_int (fun _ _ => rfl)) (pa_conB (pe_op op_cat (pe_ix ix_tup (pv 2) pe_int (fun _ _ => rfl)) (pe_ix ix_tup (pv 3) pe_int (fun _ _ => rfl))) pa_nil))))))))))), ?_⟩
  refine ⟨_, rfl, ?_⟩
  refine ⟨_, rfl, _, rfl, th, tr, q, v, seed, rfl, TT, hst, hok, hli, hro, fun v1 c H1 s1 st1 sm sz => ?_⟩
  have hst1 := hst.same s1
  have lp := pick_len hnl sm sz
  have rl : (rowsOf th tr (.pick c q)).length ≤ 100000 := Nat.le_trans (List.length_filter_le _ _) hro
  have eh : headsOf th (.pick c q) = headsOf th q := rfl
  refine ⟨fun σ H3 => ∃ (ov tv : V) (qo qt : Qn), σ = [some v, some (.int seed), some ov, some tv, none] ∧ H3 = H1 ∧ StAt th tr H1 ov qo ∧ StAt th tr H1 tv qt ∧ (lineOf qo).length ≤ 4001000 ∧ (lineOf qt).length ≤ 4001000 ∧ (rowsOf th tr qo).length ≤ 100000 ∧ (rowsOf th tr qt).length ≤ 100000 ∧ headsOf th qo = headsOf th q ∧ ((qo = q ∧ qt = .pick c q) ∨ (qo = .pick c q ∧ qt = q)), ?_, ?_⟩
  · refine ⟨_, rfl, _, _, rfl, rfl, ⟨by decide, by decide⟩, _, _, rfl, rfl, (by show (0 : Int) < 2; decide), rfl, _, rfl, ?_⟩
    refine ite2 (fun hb => ?_) (fun hb => ?_)
    · refine ⟨_, rfl, ?_⟩
      refine ⟨_, rfl, ?_⟩
      exact ⟨_, _, _, _, rfl, rfl, st1, hst1, by omega, by omega, rl, hro, eh, .inr ⟨rfl, rfl⟩⟩
    · exact ⟨_, _, _, _, rfl, rfl, hst1, st1, by omega, by omega, hro, rl, rfl, .inl ⟨rfl, rfl⟩⟩
  · rintro σ H3 ⟨ov, tv, qo, qt, rfl, rfl, sto, stt, lo, lt, ro, rt, eo, hq⟩
    obtain ⟨p, qv, hp, rp, rs, rfl, h1, h2, h3, h4, h5⟩ := hst1
    obtain ⟨p1, qv1, hp1, rp1, rs1, rfl, a1, a2, a3, a4, a5⟩ := sto
    obtain ⟨p2, qv2, hp2, rp2, rs2, rfl, b1, b2, b3, b4, b5⟩ := stt
    have l1 : rs1.length ≤ 100000 := by rw [← a5, List.length_map] at ro; exact ro
    have l2 : rs2.length ≤ 100000 := by rw [← b5, List.length_map] at rt; exact rt
    refine ⟨_, rfl, p1, _, _, _, rfl, rfl, SqT.of a1, atI1, _, _, rfl, rfl, by (simp only [Str.length_append, l_open, l_close, l_blank, l_less, l_same, l_not, l_and, l_or, l_pick, l_cols, l_sort, l_first, l_both, l_pair, l_join, l_group, l_picks, l_cb, l_n, l_s, l_bn, l_bs, PySem.sizeLine_eq]; try omega), _, _, rfl, rfl, by (simp only [Str.length_append, l_open, l_close, l_blank, l_less, l_same, l_not, l_and, l_or, l_pick, l_cols, l_sort, l_first, l_both, l_pair, l_join, l_group, l_picks, l_cb, l_n, l_s, l_bn, l_bs, PySem.sizeLine_eq]; try omega), _, rfl, p2, _, _, _, rfl, rfl, SqT.of b1, atI1, _, _, rfl, rfl, by (simp only [Str.length_append, l_open, l_close, l_blank, l_less, l_same, l_not, l_and, l_or, l_pick, l_cols, l_sort, l_first, l_both, l_pair, l_join, l_group, l_picks, l_cb, l_n, l_s, l_bn, l_bs, PySem.sizeLine_eq]; try omega), _, _, rfl, rfl, by (simp only [Str.length_append, l_open, l_close, l_blank, l_less, l_same, l_not, l_and, l_or, l_pick, l_cols, l_sort, l_first, l_both, l_pair, l_join, l_group, l_picks, l_cb, l_n, l_s, l_bn, l_bs, PySem.sizeLine_eq]; try omega), ?_⟩
    refine ⟨_, rfl, p1, _, _, _, rfl, rfl, SqT.of a1, atI0, _, rfl, p2, _, _, _, rfl, rfl, SqT.of b1, atI0, le_line (by show 3 ≤ _; decide), fun qp hqp => ?_⟩
    refine alloc_rd (upd _ qp _) rfl hqp fun H5 n5 x5 => ?_
    refine ⟨_, rfl, _, rfl, p, _, _, _, rfl, rfl, SqT.of (n5 _ _ h1), atI2, _, rfl, p1, _, _, _, rfl, rfl, SqT.of (n5 _ _ a1), atI3, _, rfl, p2, _, _, _, rfl, rfl, SqT.of (n5 _ _ b1), atI3, _, _, _, _, rfl, rfl, n5 _ _ a4.1, n5 _ _ b4.1, le_line (by rw [List.length_map, List.length_map]; omega), fun np hnp => ?_⟩
    refine alloc_rd (upd _ np _) rfl hnp fun H6 n6 x6 => ?_
    have rc := rows_cat hnp n6 x6 (a4.same n5) (b4.same n5)
    refine ⟨le_line (by show 4 ≤ _; decide), fun sp hsp => ?_⟩
    refine alloc_rd (upd _ sp _) rfl hsp fun H7 n7 x7 => ?_
    have s37 := n5.trans (n6.trans n7)
    refine fin _ (.both qo qt) c _ (s1.trans s37) (both_at (x := p) (y := p) s37 x7 (n7 _ _ (n6 _ _ x5)) (a2.same s37) (b2.same s37) (by rw [eo]; exact s37 _ _ h3) (rc.same n7) a5 b5) sm sz ?_
    rcases hq with ⟨rfl, rfl⟩ | ⟨rfl, rfl⟩
    · exact .inl rfl
    · exact .inr rfl
def TabAt (th : Str → List Str) (tr : Str → List (List Int)) (H : Hp) (v : V) (n : Str) : Prop := ∃ (p hp rp : Addr) (rs : List (Addr × List Int)), v = .ref p ∧ H p = some (.tup [.str n, .ref hp, .ref rp]) ∧
  H hp = some (.lst ((th n).map V.str)) ∧ RowsAt H rp rs ∧ rs.map (·.2) = tr n
theorem TabAt.same {th : Str → List Str} {tr : Str → List (List Int)} {H H' : Hp} {v : V} {n : Str} (h : TabAt th tr H v n) (e : Same H H') : TabAt th tr H' v n := by
  obtain ⟨p, hp, rp, rs, rfl, h1, h3, h4, h5⟩ := h
  exact ⟨p, hp, rp, rs, rfl, e _ _ h1, e _ _ h3, h4.same e, h5⟩
def spBeside (K : PySem.W.Frag) : Sp := fun vs H Q _ => ∃ (th : Str → List Str) (tr : Str → List (List Int)) (q : Qn) (n : Str) (v tv : V) (seed : Int), vs = [v, tv, .int seed] ∧ StAt th tr H v q ∧ TabAt th tr H tv n ∧ headsOf th q = th n ∧ n.length ≤ 10 ∧ (lineOf q).length ≤ 4000000 ∧ (rowsOf th tr q).length ≤ 100000 ∧ (tr n).length ≤ 100000 ∧
  ∀ (v' : V) (q' : Qn) (H' : Hp), Same H H' → StAt th tr H' v' q' → (q' = .both q (.table n) ∨ q' = .both (.table n) q) → Q v' H'
theorem sc__law_beside : FnScope ["_law_state", "_law_table", "_law_seed", "_law_one", "_law_other", "_law_line"] ["_law_state", "_law_table", "_law_seed"] (defScope s__law_beside) := ⟨rfl, rfl, rfl, by decide +kernel, rfl, by decide +kernel, by decide +kernel⟩
theorem ok__law_beside (F : Fun K "_law_beside" "_law_beside" s__law_beside f fd) (T : Txt K mg) : FnOk P w K mg base CX0 1 f fd ["_law_state", "_law_table", "_law_seed"] (spBeside K) := by
  refine F.ok sc__law_beside (fun vs H Q E h => ?_) (fun cdv A outer s H vs Q E hr h => ?_)
  · obtain ⟨th, tr, q, n, v, tv, seed, rfl, _⟩ := h
    rfl
  obtain ⟨th, tr, q, n, v, tv, seed, rfl, hst, ht, ehn, nl, hli, hro, hrt, fin⟩ := h
  obtain ⟨tp, thp, trp, ts, rfl, t1, t3, t4, t5⟩ := ht
  refine ⟨_, (pss_cons (ps_set (i := 3) sc__law_beside.nd rfl (Or.inl rfl) (pv 0))
    (pss_cons (ps_set (i := 4) sc__law_beside.nd rfl (Or.inl rfl) (pe_tup (pa_conT (pe_tup (pa_conC pe_str (pa_conS (pe_ix ix_tup (pv 1) pe_int (fun _ _ => rfl)) pa_nil))) (pa_conS (pe_ix ix_tup (pv 1) pe_int (fun _ _ => rfl)) (pa_conS (pe_ix ix_tup (pv 1) pe_int (fun _ _ => rfl)) (pa_conS (pe_ix ix_tup (pv 1) pe_int (fun _ _ => rfl)) pa_nil))))))
    (pss_cons (ps_ifJ (pt_cmpR op_eq (pe_op op_mod (pe_op op_fdiv (pv 2) pe_int) pe_int) pe_int (nomark _))
      (pss_cons (ps_set (i := 3) sc__law_beside.nd rfl (Or.inl rfl) (pv 4))
      (pss_one (ps_set (i := 4) sc__law_beside.nd rfl (Or.inl rfl) (pv 0))))
      pss_nil)
    (pss_cons (ps_set (i := 5) sc__law_beside.nd rfl (Or.inl rfl) (pe_op op_add_str (pe_op op_add_str (pe_op op_add_str (pe_op op_add_str pe_str (pe_ix ix_tup (pv 3) pe_int (fun _ _ => rfl))) pe_str) (pe_ix ix_tup (pv 4) pe_int (fun _ _ => rfl))) pe_str))
    (pss_one (ps_ret (pe_tup (pa_conT (pe_tup (pa_conC pe_str (pa_conS (pe_ix ix_tup (pv 3) pe_int (fun _ _ => rfl)) (pa_conS (pe_ix ix_tup (pv 4) pe_int (fun _ _ => rfl)) pa_nil)))) (pa_conN (pv 5) (pa_conS (pe_ix ix_tup (pv 0) pe_int (fun _ _ => rfl)) (pa_conB (pe_op op_cat (pe_ix ix_tup (pv 3) pe_int (fun _ _ => rfl)) (pe_ix ix_tup (pv 4) pe_int (fun _ _ => rfl))) pa_nil))))))))))), ?_⟩
  refine ⟨_, rfl, ?_⟩
  refine ⟨_, rfl, tp, _, _, _, rfl, rfl, SqT.of t1, atI0, le_line (by show 2 ≤ _; decide), fun qp hqp => ?_⟩
  refine alloc_rd (upd _ qp _) rfl hqp fun H1 n1 x1 => ?_
  have t1' := n1 _ _ t1
  refine ⟨_, rfl, tp, _, _, _, rfl, rfl, SqT.of t1', atI0, _, rfl, tp, _, _, _, rfl, rfl, SqT.of t1', atI1, _, rfl, tp, _, _, _, rfl, rfl, SqT.of t1', atI2, le_line (by show 4 ≤ _; decide), fun sp0 hsp0 => ?_⟩
  refine alloc_rd (upd _ sp0 _) rfl hsp0 fun H2 n2 x2 => ?_
  have s2 := n1.trans n2
  have st2 : StAt th tr H2 (.ref sp0) (.table n) := ⟨sp0, _, thp, trp, ts, rfl, x2, ⟨qp, rfl, n2 _ _ x1⟩, s2 _ _ t3, t4.same s2, t5⟩
  have hst2 := hst.same s2
  have ltn : (lineOf (.table n)).length ≤ 10 := nl
  refine ⟨fun σ H3 => ∃ (ov uv : V) (qo qt : Qn), σ = [some v, some (.ref tp), some (.int seed), some ov, some uv, none] ∧ H3 = H2 ∧ StAt th tr H2 ov qo ∧ StAt th tr H2 uv qt ∧ (lineOf qo).length ≤ 4000000 ∧ (lineOf qt).length ≤ 4000000 ∧ (rowsOf th tr qo).length ≤ 100000 ∧ (rowsOf th tr qt).length ≤ 100000 ∧ headsOf th qo = headsOf th q ∧ ((qo = q ∧ qt = .table n) ∨ (qo = .table n ∧ qt = q)), ?_, ?_⟩
  · refine ⟨_, rfl, _, _, rfl, rfl, ⟨by decide, by decide⟩, _, _, rfl, rfl, (by show (0 : Int) < 2; decide), rfl, _, rfl, ?_⟩
    refine ite2 (fun hb => ?_) (fun hb => ?_)
    · refine ⟨_, rfl, ?_⟩
      refine ⟨_, rfl, ?_⟩
      exact ⟨_, _, _, _, rfl, rfl, st2, hst2, by omega, by omega, hrt, hro, ehn.symm, .inr ⟨rfl, rfl⟩⟩
    · exact ⟨_, _, _, _, rfl, rfl, hst2, st2, by omega, by omega, hro, hrt, rfl, .inl ⟨rfl, rfl⟩⟩
  · rintro σ H3 ⟨ov, uv, qo, qt, rfl, rfl, sto, stt, lo, lt, ro, rt, eo, hq⟩
    obtain ⟨p, qv, hp, rp, rs, rfl, h1, h2, h3, h4, h5⟩ := hst2
    obtain ⟨p1, qv1, hp1, rp1, rs1, rfl, a1, a2, a3, a4, a5⟩ := sto
    obtain ⟨p2, qv2, hp2, rp2, rs2, rfl, b1, b2, b3, b4, b5⟩ := stt
    have l1 : rs1.length ≤ 100000 := by rw [← a5, List.length_map] at ro; exact ro
    have l2 : rs2.length ≤ 100000 := by rw [← b5, List.length_map] at rt; exact rt
    refine ⟨_, rfl, p1, _, _, _, rfl, rfl, SqT.of a1, atI1, _, _, rfl, rfl, by (simp only [Str.length_append, l_open, l_close, l_blank, l_less, l_same, l_not, l_and, l_or, l_pick, l_cols, l_sort, l_first, l_both, l_pair, l_join, l_group, l_picks, l_cb, l_n, l_s, l_bn, l_bs, PySem.sizeLine_eq]; try omega), _, _, rfl, rfl, by (simp only [Str.length_append, l_open, l_close, l_blank, l_less, l_same, l_not, l_and, l_or, l_pick, l_cols, l_sort, l_first, l_both, l_pair, l_join, l_group, l_picks, l_cb, l_n, l_s, l_bn, l_bs, PySem.sizeLine_eq]; try omega), _, rfl, p2, _, _, _, rfl, rfl, SqT.of b1, atI1, _, _, rfl, rfl, by (simp only [Str.length_append, l_open, l_close, l_blank, l_less, l_same, l_not, l_and, l_or, l_pick, l_cols, l_sort, l_first, l_both, l_pair, l_join, l_group, l_picks, l_cb, l_n, l_s, l_bn, l_bs, PySem.sizeLine_eq]; try omega), _, _, rfl, rfl, by (simp only [Str.length_append, l_open, l_close, l_blank, l_less, l_same, l_not, l_and, l_or, l_pick, l_cols, l_sort, l_first, l_both, l_pair, l_join, l_group, l_picks, l_cb, l_n, l_s, l_bn, l_bs, PySem.sizeLine_eq]; try omega), ?_⟩
    refine ⟨_, rfl, p1, _, _, _, rfl, rfl, SqT.of a1, atI0, _, rfl, p2, _, _, _, rfl, rfl, SqT.of b1, atI0, le_line (by show 3 ≤ _; decide), fun qp' hqp' => ?_⟩
    refine alloc_rd (upd _ qp' _) rfl hqp' fun H5 n5 x5 => ?_
    refine ⟨_, rfl, _, rfl, p, _, _, _, rfl, rfl, SqT.of (n5 _ _ h1), atI2, _, rfl, p1, _, _, _, rfl, rfl, SqT.of (n5 _ _ a1), atI3, _, rfl, p2, _, _, _, rfl, rfl, SqT.of (n5 _ _ b1), atI3, _, _, _, _, rfl, rfl, n5 _ _ a4.1, n5 _ _ b4.1, le_line (by rw [List.length_map, List.length_map]; omega), fun np hnp => ?_⟩
    refine alloc_rd (upd _ np _) rfl hnp fun H6 n6 x6 => ?_
    have rc := rows_cat hnp n6 x6 (a4.same n5) (b4.same n5)
    refine ⟨le_line (by show 4 ≤ _; decide), fun sp hsp => ?_⟩
    refine alloc_rd (upd _ sp _) rfl hsp fun H7 n7 x7 => ?_
    have s37 := n5.trans (n6.trans n7)
    refine fin _ (.both qo qt) _ (s2.trans s37) (both_at (x := p) (y := p) s37 x7 (n7 _ _ (n6 _ _ x5)) (a2.same s37) (b2.same s37) (by rw [eo]; exact s37 _ _ h3) (rc.same n7) a5 b5) ?_
    rcases hq with ⟨rfl, rfl⟩ | ⟨rfl, rfl⟩
    · exact .inl rfl
    · exact .inr rfl
theorem snd_at {rs : List (Addr × List Int)} {i : Nat} (h : i < rs.length) : (rs.map (·.2))[i]? = some rs[i].2 := by
  rw [List.getElem?_map, List.getElem?_eq_getElem h]
  rfl
theorem snd_getD {rs : List (Addr × List Int)} {i : Nat} (h : i < rs.length) : (rs.map (·.2)).getD i [] = rs[i].2 := by
  rw [List.getD_eq_getElem?_getD, snd_at h]
  rfl
theorem cut_rest {xs : List V} {m : Int} (h : 0 ≤ m) : cutV xs (some m) none = xs.drop m.toNat := by
  unfold cutV
  rw [HT.sIx_none]
  have e : HT.sIx xs.length 0 (some m) = min m.toNat xs.length := by
    show (if m < 0 then (m + (xs.length : Int)).toNat else min m.toNat xs.length) = _
    rw [if_neg (by omega)]
  rw [e]
  by_cases hm : m.toNat ≤ xs.length
  · rw [Nat.min_eq_left hm, List.take_of_length_le (by rw [List.length_drop]; omega)]
  · rw [Nat.min_eq_right (by omega), List.drop_of_length_le (Nat.le_refl _), List.drop_of_length_le (by omega), List.take_nil]
theorem turned_perm {α : Type} (hs : List α) (t : Nat) : (hs.drop t ++ hs.take t).Perm hs := by
  have := List.perm_append_comm (l₁ := hs.drop t) (l₂ := hs.take t)
  rwa [List.take_append_drop] at this
theorem names_sum {ns : List Str} (h : ∀ n ∈ ns, n.length ≤ 10) : (ns.map (·.length)).sum ≤ 10 * ns.length := by
  induction ns with
  | nil => exact Nat.le_refl _
  | cons n ns ih =>
    have h1 := h n List.mem_cons_self
    have h2 := ih fun m hm => h m (List.mem_cons_of_mem _ hm)
    rw [List.map_cons, List.sum_cons, List.length_cons]
    omega
theorem join_len : ∀ {ns : List Str}, (∀ n ∈ ns, n.length ≤ 10) → (Str.join " " ns).length ≤ 11 * ns.length
  | [], _ => by simp [Str.join]; decide
  | [n], h => by
    have := h n List.mem_cons_self
    simp only [Str.join, List.length_singleton]
    omega
  | n :: m :: ns, h => by
    have h1 := h n List.mem_cons_self
    have h2 := join_len (ns := m :: ns) fun x hx => h x (List.mem_cons_of_mem _ hx)
    simp only [Str.join, Str.length_append, l_blank]
    have e : (n :: m :: ns).length = (m :: ns).length + 1 := rfl
    omega
def spColumns (K : PySem.W.Frag) : Sp := fun vs H Q _ => ∃ (th : Str → List Str) (tr : Str → List (List Int)) (q : Qn) (v : V) (seed : Int), vs = [v, .int seed] ∧ TabOk th tr ∧ StAt th tr H v q ∧ okQ th q ∧ (lineOf q).length ≤ 4000000 ∧ (rowsOf th tr q).length ≤ 100000 ∧ (headsOf th q).length ≤ 1000 ∧
  ∀ (v' : V) (ns : List Str) (H' : Hp), Same H H' → StAt th tr H' v' (.cols ns q) → ns ≠ [] → ns.Nodup → (∀ n ∈ ns, n ∈ headsOf th q) → Q v' H'
theorem sc__law_columns : FnScope ["_law_state", "_law_seed", "_law_turn", "_law_names", "_law_spots", "_law_rows", "_law_line"] ["_law_state", "_law_seed"] (defScope s__law_columns) := ⟨rfl, rfl, rfl, by decide +kernel, rfl, by decide +kernel, by decide +kernel⟩
theorem ok__law_columns (F : Fun K "_law_columns" "_law_columns" s__law_columns f fd) (T : Txt K mg) : FnOk P w K mg base CX0 1 f fd ["_law_state", "_law_seed"] (spColumns K) := by
  refine F.ok sc__law_columns (fun vs H Q E h => ?_) (fun cdv A outer s H vs Q E hr h => ?_)
  · obtain ⟨th, tr, q, v, seed, rfl, _⟩ := h
    rfl
  obtain ⟨th, tr, q, v, seed, rfl, TT, hst, hok, hli, hro, hhl, fin⟩ := h
  obtain ⟨p, qv, hp, rp, rs, rfl, h1, h2, h3, h4, h5⟩ := hst
  obtain ⟨hne, hnd⟩ := heads_ok TT hok
  have hnl := name_len TT hok
  have hrl := rows_len TT hok
  have hlr : (refs rs).length = rs.length := List.length_map _
  have hrc : rs.length ≤ 100000 := by rw [← h5, List.length_map] at hro; exact hro
  generalize hhs : headsOf th q = hs at *
  have hlen : (0 : Int) < (((hs.map V.str).length : Nat) : Int) := by
    have := List.length_pos_iff.mpr hne
    rw [List.length_map]; omega
  refine ⟨_, (pss_cons (ps_set (i := 2) sc__law_columns.nd rfl (Or.inl rfl) (pe_op op_mod (pv 1) (pe_callB call_len_seq rfl T.len PySem.boot_len (pa_conS (pe_ix ix_tup (pv 0) pe_int (fun _ _ => rfl)) pa_nil))))
    (pss_cons (ps_set (i := 3) sc__law_columns.nd rfl (Or.inl rfl) (pe_op op_cat (pe_slice sl_list (pe_ix ix_tup (pv 0) pe_int (fun _ _ => rfl)) (po_some (pv 2)) po_none) (pe_slice sl_list (pe_ix ix_tup (pv 0) pe_int (fun _ _ => rfl)) po_none (po_some (pv 2)))))
    (pss_cons (ps_ifJ (pt_andP (pt_cmpR op_eq (pe_op op_mod (pe_op op_fdiv (pv 1) pe_int) pe_int) pe_int (nomark _)) (pt_cmpR op_gt (pe_callB call_len_seq rfl T.len PySem.boot_len (pa_conN (pv 3) pa_nil)) pe_int (nomark _)))
      (pss_one (ps_set (i := 3) sc__law_columns.nd rfl (Or.inl rfl) (pe_slice sl_list (pv 3) (po_some pe_int) po_none)))
      pss_nil)
    (pss_cons (ps_set (i := 4) sc__law_columns.nd rfl (Or.inr rfl) (pe_comp rfl (CompSc.of (sx := defScope s__law_columns) (NX := ["_law_state", "_law_seed", "_law_turn", "_law_names", "_law_spots", "_law_rows", "_law_line"]) (fr := ["_law_state"]) (ix := [0]) rfl rfl (by decide +kernel)) (pi_list (pv 3)) (fun _ _ _ _ _ _ => pif_nil) (fun _ _ _ _ _ _ => (pe_bmK (K := K) rfl PySem.F.plainAttrs_list PySem.F.slot_list_index PySem.F.type_list_index (mt_indexK (K := K) rfl) (pe_ix (ix_tupK (K := K) rfl) (pv 1) pe_int (fun _ _ => rfl)) (pa_conN (pv 0) pa_nil)))))
    (pss_cons (ps_setComp (j := 5) rfl sc__law_columns.nd rfl (Or.inl rfl) (CompSc.of (sx := defScope s__law_columns) (NX := ["_law_state", "_law_seed", "_law_turn", "_law_names", "_law_spots", "_law_rows", "_law_line"]) (fr := ["_law_spots"]) (ix := [4]) rfl rfl (by decide +kernel)) (pi_list (pe_ix ix_tup (pv 0) pe_int (fun _ _ => rfl))) (fun _ _ _ _ _ _ => pif_nil) (fun _ _ _ _ _ _ => (pe_comp rfl (CompSc.of2 (sx := defScope s__law_columns) (NX := ["_law_row", "_law_spots"]) (fr := ["_law_row"]) (ix := [0]) rfl rfl (by decide +kernel)) (pi_listK (K := K) rfl (pv 1)) (fun _ _ _ _ _ _ => pif_nil) (fun _ _ _ _ _ _ => (pe_ix (ix_listK (K := K) rfl) (pv 1) (pv 0) (fun _ _ => rfl))))))
    (pss_cons (ps_set (i := 6) sc__law_columns.nd rfl (Or.inl rfl) (pe_op op_add_str (pe_op op_add_str (pe_op op_add_str (pe_op op_add_str pe_str (pe_bm PySem.F.plainAttrs_str PySem.F.slot_str_join PySem.F.type_str_join mt_join pe_str (pa_conN (pv 3) pa_nil))) pe_str) (pe_ix ix_tup (pv 0) pe_int (fun _ _ => rfl))) pe_str))
    (pss_one (ps_ret (pe_tup (pa_conT (pe_tup (pa_conC pe_str (pa_conK (pe_callTy call_tuple_of rfl T.tuple PyProof.Rows.boot_tuple (pa_conN (pv 3) pa_nil)) (pa_conS (pe_ix ix_tup (pv 0) pe_int (fun _ _ => rfl)) pa_nil)))) (pa_conN (pv 6) (pa_conN (pv 3) (pa_conN (pv 5) pa_nil))))))))))))), ?_⟩
  refine ⟨_, rfl, _, rfl, p, _, _, _, rfl, rfl, SqT.of h1, atI2, hp, _, rfl, .inl (SqL.of h3), _, _, rfl, rfl, hlen, ?_⟩
  obtain ⟨t0, t1⟩ := mod_of (i := seed) hlen
  obtain ⟨tn, htn⟩ : ∃ tn, seed % (((hs.map V.str).length : Nat) : Int) = tn := ⟨_, rfl⟩
  dsimp -proj only
  rw [htn] at t0 t1 ⊢
  refine ⟨_, rfl, p, _, _, _, rfl, rfl, SqT.of h1, atI2, _, rfl, _, rfl, hp, _, rfl, SqL.of h3, fun l1 f1 => ?_⟩
  rw [cut_rest t0, ← List.map_drop]
  refine alloc_rd (upd _ l1 _) rfl f1 fun H1 n1 x1 => ?_
  refine ⟨_, rfl, p, _, _, _, rfl, rfl, SqT.of (n1 _ _ h1), atI2, _, rfl, _, rfl, hp, _, rfl, SqL.of (n1 _ _ h3), fun l2 f2 => ?_⟩
  rw [cut_first t0, ← List.map_take]
  refine alloc_rd (upd _ l2 _) rfl f2 fun H2 n2 x2 => ?_
  refine ⟨_, _, _, _, rfl, rfl, n2 _ _ x1, x2, le_line (by rw [List.length_map, List.length_map, List.length_drop, List.length_take]; omega), fun l3 f3 => ?_⟩
  rw [← List.map_append]
  refine alloc_rd (upd _ l3 _) rfl f3 fun H3 n3 x3 => ?_
  have pm := turned_perm hs tn.toNat
  have nl : (hs.drop tn.toNat ++ hs.take tn.toNat).length = hs.length := pm.length_eq
  have nnd : (hs.drop tn.toNat ++ hs.take tn.toNat).Nodup := pm.nodup_iff.mpr hnd
  have nmem : ∀ n ∈ hs.drop tn.toNat ++ hs.take tn.toNat, n ∈ hs := fun n hn => pm.mem_iff.mp hn
  generalize hs.drop tn.toNat ++ hs.take tn.toNat = ns0 at x3 nl nnd nmem
  have s3 := n1.trans (n2.trans n3)
  refine ⟨fun σ H4 => ∃ (np : Addr) (ns : List Str), σ = [some (.ref p), some (.int seed), some (.int tn), some (.ref np), none, none, none] ∧ Same H H4 ∧ H4 np = some (.lst (ns.map V.str)) ∧ ns ≠ [] ∧ ns.Nodup ∧ (∀ n ∈ ns, n ∈ hs) ∧ ns.length ≤ 1000, ?_, ?_⟩
  · refine ⟨_, rfl, _, _, rfl, rfl, ⟨by decide, by decide⟩, _, _, rfl, rfl, (by show (0 : Int) < 3; decide), rfl, _, rfl, _, ⟨_, rfl, l3, _, rfl, .inl (SqL.of x3), _, _, rfl, rfl, _, rfl, rfl, rfl⟩, ?_⟩
    refine ite2 (fun hb => ?_) (fun hb => ?_)
    · rw [Bool.and_eq_true] at hb
      have hb2 := of_decide_eq_true hb.2
      rw [List.length_map] at hb2
      refine ⟨_, rfl, 1, rfl, l3, _, rfl, SqL.of x3, fun l4 f4 => ?_⟩
      rw [cut_rest (by decide), ← List.map_drop]
      refine alloc_rd (upd _ l4 _) rfl f4 fun H4 n4 x4 => ?_
      refine ⟨l4, ns0.drop 1, rfl, s3.trans n4, x4, fun z => ?_, nnd.sublist (List.drop_sublist _ _), fun n hn => nmem n (List.mem_of_mem_drop hn), by rw [List.length_drop]; omega⟩
      have := congrArg List.length z
      rw [List.length_drop] at this
      simp at this
      omega
    · refine ⟨l3, ns0, rfl, s3, x3, fun z => ?_, nnd, nmem, by omega⟩
      rw [z] at nl
      exact hne (List.length_eq_zero_iff.mp nl.symm)
  · rintro σ H4 ⟨np, ns, rfl, s4, x4, nne, nnd, nmem, nlen⟩
    have nl10 : ∀ n ∈ ns, n.length ≤ 10 := fun n hn => hnl n (nmem n hn)
    refine ⟨_, rfl, np, rfl, ⟨_, SqL.of x4⟩, ?_⟩
    refine comp_listN (xs := ns.map V.str) (fun i ys H' => Same H4 H' ∧ ys = (ns.take i).map fun n => V.int ((hs.idxOf n : Nat) : Int)) ⟨Same.refl _, rfl⟩ ?_ ?_ ?_
    · rintro i ys H' hi ⟨sm', rfl⟩
      exact ⟨SqL.of (sm' _ _ x4), lt_line (by rw [List.length_map, List.length_take]; omega)⟩
    · rintro i x ys H' hi ⟨sm', rfl⟩
      have hin : i < ns.length := by
        have := (List.getElem?_eq_some_iff.mp hi).1
        rwa [List.length_map] at this
      rw [List.getElem?_map, List.getElem?_eq_getElem hin] at hi
      cases hi
      have hi0 := index_strs (nmem _ (List.getElem_mem hin))
      have g3 := (s4.trans sm') _ _ h3
      refine ⟨_, rfl, p, _, _, _, rfl, rfl, SqT.of ((s4.trans sm') _ _ h1), atI2, .inl ⟨rfl, _, SqL.of g3⟩, _, rfl, hp, _, _, hs.idxOf ns[i], rfl, rfl, SqL.of g3, rfl, flat_strs hs, hi0.1, hi0.2, sm', ?_⟩
      rw [List.take_add_one, List.getElem?_eq_getElem hin, List.map_append]
      rfl
    · rintro ys H' ⟨sm', rfl⟩ sp hsp
      rw [List.length_map, List.take_length]
      refine alloc_rd (upd _ sp _) rfl hsp fun H5 n5 x5 => ?_
      have s5 := s4.trans (sm'.trans n5)
      have j5 := h4.same s5
      refine ⟨_, rfl, p, _, _, _, rfl, rfl, SqT.of (s5 _ _ h1), atI3, rp, rfl, ⟨_, SqL.of j5.1⟩, ?_⟩
      refine comp_listN (xs := refs rs) (fun i ys H' => Same H5 H' ∧ ∃ qs : List (Addr × List Int), ys = refs qs ∧ qs.length = i ∧ (∀ r ∈ qs, H' r.1 = some (.lst (r.2.map V.int))) ∧ qs.map (·.2) = ((rs.map (·.2)).take i).map fun r => ns.map fun n => r.getD (hs.idxOf n) 0) ⟨Same.refl _, [], rfl, rfl, fun _ z => (by cases z), rfl⟩ ?_ ?_ ?_
      · rintro i ys H6 hi ⟨s6, qs, rfl, hq, _, _⟩
        rw [hlr] at hi
        exact ⟨SqL.of (s6 _ _ j5.1), lt_line (by rw [List.length_map]; omega)⟩
      · rintro i x ys H6 hi ⟨s6, qs, rfl, hq, hqa, hqe⟩
        have hir : i < rs.length := by
          have := (List.getElem?_eq_some_iff.mp hi).1
          rwa [hlr] at this
        rw [at_row hir] at hi
        cases hi
        have hrow := (j5.2 _ (List.getElem_mem hir)).2
        have hlen' : rs[i].2.length = hs.length := hrl _ (by rw [← h5]; exact List.mem_map.mpr ⟨_, List.getElem_mem hir, rfl⟩)
        refine ⟨_, rfl, sp, rfl, ⟨_, SqL.of (s6 _ _ x5)⟩, ?_⟩
        refine comp_listN (xs := ns.map fun n => V.int ((hs.idxOf n : Nat) : Int)) (fun m ys H' => H' = H6 ∧ ys = ((ns.take m).map fun n => rs[i].2.getD (hs.idxOf n) 0).map V.int) ⟨rfl, rfl⟩ ?_ ?_ ?_
        · rintro m ys H7 hm ⟨rfl, rfl⟩
          exact ⟨SqL.of (s6 _ _ x5), lt_line (by rw [List.length_map, List.length_map, List.length_take]; omega)⟩
        · rintro m x ys H7 hm ⟨rfl, rfl⟩
          have hmn : m < ns.length := by
            have := (List.getElem?_eq_some_iff.mp hm).1
            rwa [List.length_map] at this
          rw [List.getElem?_map, List.getElem?_eq_getElem hmn] at hm
          cases hm
          have hix : hs.idxOf ns[m] < rs[i].2.length := by rw [hlen']; exact List.idxOf_lt_length_iff.mpr (nmem _ (List.getElem_mem hmn))
          refine ⟨_, rfl, _, rfl, rs[i].1, _, _, _, rfl, rfl, SqL.of (s6 _ _ hrow), atI_nat (int_at hix), rfl, ?_⟩
          rw [List.take_add_one, List.getElem?_eq_getElem hmn, List.map_append, List.map_append]
          rfl
        · rintro ys H7 ⟨rfl, rfl⟩ lp hlp
          rw [List.length_map, List.take_length]
          have n8 := same_new hlp (.lst ((ns.map fun n => rs[i].2.getD (hs.idxOf n) 0).map V.int))
          refine ⟨s6.trans n8, qs ++ [(lp, ns.map fun n => rs[i].2.getD (hs.idxOf n) 0)], by simp [refs], by rw [List.length_append, hq]; rfl, fun r m => ?_, ?_⟩
          · rcases List.mem_append.mp m with m | m
            · exact n8 _ _ (hqa r m)
            · rw [List.mem_singleton.mp m]
              exact upd_same
          · rw [List.map_append, hqe, List.take_add_one, snd_at hir, List.map_append]
            rfl
      · rintro ys H6 ⟨s6, qs, rfl, hq, hqa, hqe⟩ wp hwp
        rw [hlr, show (rs.map (·.2)).take rs.length = rs.map (·.2) from List.take_of_length_le (by rw [List.length_map]; exact Nat.le_refl _)] at hqe
        refine alloc_rd (upd _ wp _) rfl hwp fun H7 n7 x7 => ?_
        have w7 := rows_new hwp n7 x7 hqa
        have s57 := s6.trans n7
        have s47 := sm'.trans (n5.trans s57)
        have s7 := s4.trans s47
        have jl := join_len nl10
        have sl := names_sum nl10
        refine ⟨rfl, _, rfl, _, np, ns, rfl, rfl, SqL.of (s47 _ _ x4), by rw [l_blank]; omega, _, _, rfl, rfl, by (simp only [Str.length_append, l_open, l_close, l_blank, l_less, l_same, l_not, l_and, l_or, l_pick, l_cols, l_sort, l_first, l_both, l_pair, l_join, l_group, l_picks, l_cb, l_n, l_s, l_bn, l_bs, PySem.sizeLine_eq]; try omega), _, _, rfl, rfl, by (simp only [Str.length_append, l_open, l_close, l_blank, l_less, l_same, l_not, l_and, l_or, l_pick, l_cols, l_sort, l_first, l_both, l_pair, l_join, l_group, l_picks, l_cb, l_n, l_s, l_bn, l_bs, PySem.sizeLine_eq]; try omega), _, rfl, p, _, _, _, rfl, rfl, SqT.of (s7 _ _ h1), atI1, _, _, rfl, rfl, by (simp only [Str.length_append, l_open, l_close, l_blank, l_less, l_same, l_not, l_and, l_or, l_pick, l_cols, l_sort, l_first, l_both, l_pair, l_join, l_group, l_picks, l_cb, l_n, l_s, l_bn, l_bs, PySem.sizeLine_eq]; try omega), _, _, rfl, rfl, by (simp only [Str.length_append, l_open, l_close, l_blank, l_less, l_same, l_not, l_and, l_or, l_pick, l_cols, l_sort, l_first, l_both, l_pair, l_join, l_group, l_picks, l_cb, l_n, l_s, l_bn, l_bs, PySem.sizeLine_eq]; try omega), ?_⟩
        refine ⟨_, rfl, np, _, rfl, .inl ⟨SqL.of (s47 _ _ x4), fun tp htp => ?_⟩⟩
        refine alloc_rd (upd _ tp _) rfl htp fun H8 n8 x8 => ?_
        refine ⟨_, rfl, p, _, _, _, rfl, rfl, SqT.of (n8 _ _ (s7 _ _ h1)), atI0, le_line (by show 3 ≤ _; decide), fun qp hqp => ?_⟩
        refine alloc_rd (upd _ qp _) rfl hqp fun H9 n9 x9 => ?_
        refine ⟨_, rfl, _, rfl, _, rfl, le_line (by show 4 ≤ _; decide), fun sp' hsp' => ?_⟩
        refine alloc_rd (upd _ sp' _) rfl hsp' fun H10 n10 x10 => ?_
        have s710 := n8.trans (n9.trans n10)
        have s10 := s7.trans s710
        refine fin _ ns _ s10 ⟨sp', _, np, wp, qs, rfl, x10, ⟨qp, tp, qv, rfl, n10 _ _ x9, n10 _ _ (n9 _ _ x8), h2.same s10⟩, (s47.trans s710) _ _ x4, w7.same s710, ?_⟩ nne nnd nmem
        rw [hqe, h5]
        simp only [rowsOf, hhs]
def spSorted (K : PySem.W.Frag) : Sp := fun vs H Q _ => ∃ (th : Str → List Str) (tr : Str → List (List Int)) (q : Qn) (v : V) (seed : Int), vs = [v, .int seed] ∧ TabOk th tr ∧ StAt th tr H v q ∧ okQ th q ∧ (lineOf q).length ≤ 4000000 ∧ (rowsOf th tr q).length < 64 ∧
  ∀ (v' : V) (n : Str) (H' : Hp), Same H H' → StAt th tr H' v' (.sort n q) → n ∈ headsOf th q → Q v' H'
theorem zip_ix (ks : List Int) : ∀ m, m < ks.length → (ks.getD m 0, (m : Int)) = (((ks.zipIdx.map fun x => (x.1, (x.2 : Int))).getD m (0, 0))) := fun m hm => by
  rw [List.getD_eq_getElem?_getD, List.getElem?_eq_getElem hm, List.getD_eq_getElem?_getD, List.getElem?_map, List.getElem?_zipIdx, List.getElem?_eq_getElem hm]
  simp
theorem sc__law_sorted : FnScope ["_law_state", "_law_seed", "_law_name", "_law_spot", "_law_keys", "_law_rows", "_law_pair", "_law_line"] ["_law_state", "_law_seed"] (defScope s__law_sorted) := ⟨rfl, rfl, rfl, by decide +kernel, rfl, by decide +kernel, by decide +kernel⟩
theorem ok__law_sorted (F : Fun K "_law_sorted" "_law_sorted" s__law_sorted f fd) (T : Txt K mg) : FnOk P w K mg base CX0 1 f fd ["_law_state", "_law_seed"] (spSorted K) := by
  refine F.ok sc__law_sorted (fun vs H Q E h => ?_) (fun cdv A outer s H vs Q E hr h => ?_)
  · obtain ⟨th, tr, q, v, seed, rfl, _⟩ := h
    rfl
  obtain ⟨th, tr, q, v, seed, rfl, TT, hst, hok, hli, hro, fin⟩ := h
  obtain ⟨p, qv, hp, rp, rs, rfl, h1, h2, h3, h4, h5⟩ := hst
  obtain ⟨hne, hnd⟩ := heads_ok TT hok
  have hnl := name_len TT hok
  have hrl := rows_len TT hok
  have hlr : (refs rs).length = rs.length := List.length_map _
  have hrc : rs.length < 64 := by rw [← h5, List.length_map] at hro; exact hro
  have hlen : (0 : Int) < ((((headsOf th q).map V.str).length : Nat) : Int) := by
    have := List.length_pos_iff.mpr hne
    rw [List.length_map]; omega
  obtain ⟨nm, mn, en⟩ := name_at (i := seed) hne
  have hi0 := index_strs mn
  have nl := hnl nm mn
  refine ⟨_, (pss_cons (ps_set (i := 2) sc__law_sorted.nd rfl (Or.inl rfl) (pe_ix ix_list (pe_ix ix_tup (pv 0) pe_int (fun _ _ => rfl)) (pe_op op_mod (pv 1) (pe_callB call_len_seq rfl T.len PySem.boot_len (pa_conS (pe_ix ix_tup (pv 0) pe_int (fun _ _ => rfl)) pa_nil))) (fun _ _ => rfl)))
    (pss_cons (ps_set (i := 3) sc__law_sorted.nd rfl (Or.inr rfl) (pe_bm PySem.F.plainAttrs_list PySem.F.slot_list_index PySem.F.type_list_index mt_index (pe_ix ix_tup (pv 0) pe_int (fun _ _ => rfl)) (pa_conN (pv 2) pa_nil)))
    (pss_cons (ps_setComp (j := 4) rfl sc__law_sorted.nd rfl (Or.inl rfl) (CompSc.of (sx := defScope s__law_sorted) (NX := ["_law_state", "_law_seed", "_law_name", "_law_spot", "_law_keys", "_law_rows", "_law_pair", "_law_line"]) (fr := ["_law_state", "_law_spot"]) (ix := [0, 3]) rfl rfl (by decide +kernel)) (pi_range1 rfl T.range (pa_conK (pe_callB call_len_seq rfl T.len PySem.boot_len (pa_conS (pe_ix ix_tup (pv 0) pe_int (fun _ _ => rfl)) pa_nil)) pa_nil)) (fun _ _ _ _ _ _ => pif_nil) (fun _ _ _ _ _ _ => (pe_tup (pa_conS (pe_ix (ix_listK (K := K) rfl) (pe_ix (ix_listK (K := K) rfl) (pe_ix (ix_tupK (K := K) rfl) (pv 1) pe_int (fun _ _ => rfl)) (pv 0) (fun _ _ => rfl)) (pv 2) (fun _ _ => rfl)) (pa_conN (pv 0) pa_nil)))))
    (pss_cons (ps_set (i := 5) sc__law_sorted.nd rfl (Or.inl rfl) (pe_lst pa_nil))
    (pss_cons (ps_for PassesOwn.never rfl (pi_list (pe_callB (call_sortedP rfl) rfl T.sorted PyProof.Rows.boot_sorted (pa_conN (pv 4) pa_nil))) (pg_name (i := 6) sc__law_sorted.nd rfl (Or.inl rfl))
      (pss_one (ps_expr (pe_bm PySem.F.plainAttrs_list PySem.F.slot_list_append PySem.F.type_list_append mt_append (pv 5) (pa_conS (pe_ix ix_list (pe_ix ix_tup (pv 0) pe_int (fun _ _ => rfl)) (pe_ix ix_tup (pv 6) pe_int (fun _ _ => rfl)) (fun _ _ => rfl)) pa_nil)))))
    (pss_cons (ps_set (i := 7) sc__law_sorted.nd rfl (Or.inl rfl) (pe_op op_add_str (pe_op op_add_str (pe_op op_add_str (pe_op op_add_str pe_str (pv 2)) pe_str) (pe_ix ix_tup (pv 0) pe_int (fun _ _ => rfl))) pe_str))
    (pss_one (ps_ret (pe_tup (pa_conT (pe_tup (pa_conC pe_str (pa_conN (pv 2) (pa_conS (pe_ix ix_tup (pv 0) pe_int (fun _ _ => rfl)) pa_nil)))) (pa_conN (pv 7) (pa_conS (pe_ix ix_tup (pv 0) pe_int (fun _ _ => rfl)) (pa_conN (pv 5) pa_nil))))))))))))), ?_⟩
  refine ⟨_, rfl, p, _, _, _, rfl, rfl, SqT.of h1, atI2, _, rfl, _, rfl, p, _, _, _, rfl, rfl, SqT.of h1, atI2, hp, _, rfl, .inl (SqL.of h3), _, _, rfl, rfl, hlen, hp, _, _, _, rfl, rfl, SqL.of h3, en, ?_⟩
  refine ⟨_, rfl, p, _, _, _, rfl, rfl, SqT.of h1, atI2, .inl ⟨rfl, _, SqL.of h3⟩, _, rfl, hp, _, _, (headsOf th q).idxOf nm, rfl, rfl, SqL.of h3, rfl, flat_strs _, hi0.1, hi0.2, ?_⟩
  have sl : ∀ r ∈ rs, (headsOf th q).idxOf nm < r.2.length := fun r m => by
    rw [hrl r.2 (by rw [← h5]; exact List.mem_map.mpr ⟨_, m, rfl⟩)]
    exact List.idxOf_lt_length_iff.mpr mn
  generalize hsp : (headsOf th q).idxOf nm = sp at sl
  refine ⟨_, rfl, p, _, _, _, rfl, rfl, SqT.of h1, atI3, rp, _, rfl, .inl (SqL.of h4.1), _, rfl, by omega, by rw [hlr]; omega, ?_⟩
  refine comp_rangeN (lo := 0) (n := (((refs rs).length : Nat) : Int).toNat) (fun i ys H' => Same H H' ∧ ∃ ps : List PQ, ys = (ps.map fun p => V.ref p.1) ∧ ps.length = i ∧ (∀ p ∈ ps, H' p.1 = some (.tup [.int p.2.1, .int p.2.2])) ∧ ∀ (m : Nat) (hm : m < ps.length), ps[m].2 = ((rs.getD m (0, [])).2.getD sp 0, (m : Int))) ⟨Same.refl _, [], rfl, rfl, fun _ z => (by cases z), fun m hm => absurd hm (Nat.not_lt_zero _)⟩ ?_ ?_ ?_
  · rintro i ys H' hi ⟨sm', ps, rfl, hq, _, _⟩
    rw [Int.toNat_natCast, hlr] at hi
    exact lt_line (by rw [List.length_map]; omega)
  · rintro i ys H' hi ⟨sm', ps, rfl, hq, hpa, hpe⟩
    rw [Int.toNat_natCast, hlr] at hi
    have hrow := sm' _ _ (h4.2 _ (List.getElem_mem hi)).2
    refine ⟨_, rfl, p, _, _, _, rfl, rfl, SqT.of (sm' _ _ h1), atI3, _, rfl, rp, _, _, _, rfl, rfl, SqL.of (sm' _ _ h4.1), atI_row hi, _, rfl, rs[i].1, _, _, _, rfl, rfl, SqL.of hrow, atI_nat (int_at (sl _ (List.getElem_mem hi))), _, rfl, le_line (by show 2 ≤ _; decide), fun tp htp => ?_⟩
    have n1 := same_new htp (.tup [V.int (rs[i].2.getD sp 0), V.int (0 + (i : Int))])
    refine ⟨sm'.trans n1, ps ++ [(tp, rs[i].2.getD sp 0, 0 + (i : Int))], by simp, by rw [List.length_append, hq]; rfl, fun r m => ?_, fun m hm => ?_⟩
    · rcases List.mem_append.mp m with m | m
      · exact n1 _ _ (hpa r m)
      · rw [List.mem_singleton.mp m]
        exact upd_same
    · rw [List.length_append, List.length_singleton] at hm
      by_cases hml : m < ps.length
      · rw [List.getElem_append_left hml]
        exact hpe m hml
      · have em : m = ps.length := by omega
        subst em
        rw [List.getElem_append_right (Nat.le_refl _)]
        simp only [Nat.sub_self, List.getElem_cons_zero]
        rw [hq, List.getD_eq_getElem?_getD (l := rs), List.getElem?_eq_getElem hi, Int.zero_add]
        rfl
  · rintro ys H' ⟨sm', ps, rfl, hq, hpa, hpe⟩ kp hkp
    rw [Int.toNat_natCast, hlr] at hq
    refine alloc_rd (upd _ kp _) rfl hkp fun H1 n1 x1 => ?_
    have s1 := sm'.trans n1
    refine ⟨le_line (by show 0 ≤ _; decide), fun wp hwp => ?_⟩
    refine alloc_rd (upd _ wp _) rfl hwp fun H2 n2 x2 => ?_
    have s2 := s1.trans n2
    have fwp : H wp = none := s1.free hwp
    refine ⟨_, rfl, kp, ps, rfl, SqL.of (n2 _ _ x1), fun p m => n2 _ _ (n1 _ _ (hpa p m)), by omega, fun dp is hdp pm pw => ?_⟩
    have nwd : dp ≠ wp := (ne_of_none x2 hdp).symm
    refine alloc_rd (upd _ dp _) rfl hdp fun H3 n3 x3 => ?_
    rw [hq] at pm
    have mem : ∀ i ∈ is, i < rs.length := fun i hi => List.mem_range.mp (pm.mem_iff.mp hi)
    have pk : ∀ i, i < rs.length → (ps.getD i pq0).2 = ((rs.getD i (0, [])).2.getD sp 0, (i : Int)) := fun i hi => by
      rw [List.getD_eq_getElem?_getD, List.getElem?_eq_getElem (by omega)]
      exact hpe i (by omega)
    have s3 := s2.trans n3
    refine ⟨dp, rfl, ⟨_, SqL.of x3⟩, for_list (K := K) (a := dp) (xs := is.map fun i => V.ref (ps.getD i pq0).1) (fun i σ H' => ∃ o6 : Option V, σ = [some (.ref p), some (.int seed), some (.str nm), some (.int ((sp : Nat) : Int)), some (.ref kp), some (.ref wp), o6, none] ∧ Same H H' ∧ H' dp = some (.lst (is.map fun i => V.ref (ps.getD i pq0).1)) ∧ (∀ p ∈ ps, H' p.1 = some (.tup [.int p.2.1, .int p.2.2])) ∧
      RowsAt H' wp ((is.take i).map fun i => rs.getD i (0, []))) ⟨none, rfl, s3, x3, fun p m => n3 _ _ (n2 _ _ (n1 _ _ (hpa p m))), rows_nil (n3 _ _ x2)⟩ (fun i σ H' _ ⟨_, _, _, z, _⟩ => SqL.of z) ?_ ?_⟩
    · rintro i x σ H4 hi ⟨o6, rfl, s4, d4, p4, w4⟩
      have hii : i < is.length := by
        have := (List.getElem?_eq_some_iff.mp hi).1
        rwa [List.length_map] at this
      rw [List.getElem?_map, List.getElem?_eq_getElem hii] at hi
      cases hi
      have hir := mem _ (List.getElem_mem hii)
      have mp : ps.getD is[i] pq0 ∈ ps := by
        rw [List.getD_eq_getElem?_getD, List.getElem?_eq_getElem (by omega)]
        exact List.getElem_mem _
      have ek := pk _ hir
      have e2 : (ps.getD is[i] pq0).2.2 = ((is[i] : Nat) : Int) := by rw [ek]
      have j4 := h4.same s4
      have eg : rs.getD is[i] (0, []) = rs[is[i]] := by rw [List.getD_eq_getElem?_getD, List.getElem?_eq_getElem hir]; rfl
      refine ⟨_, rfl, .inl ⟨rfl, _, SqL.of w4.1⟩, _, rfl, p, _, _, _, rfl, rfl, SqT.of (s4 _ _ h1), atI3, _, rfl, _, _, _, _, rfl, rfl, SqT.of (p4 _ mp), atI1, rp, _, _, V.ref rs[is[i]].1, rfl, rfl, SqL.of j4.1, by rw [e2]; exact atI_nat (at_row hir), wp, _, _, rfl, rfl, w4.1, lt_line (by rw [List.length_map, List.length_map, List.length_take, pm.length_eq, List.length_range]; omega), ?_⟩
      refine ⟨_, rfl, s4.put fwp, by rw [upd_ne nwd]; exact d4, fun q' m => by rw [upd_ne (ne_of (p4 q' m) w4.1 (by intro z; cases z))]; exact p4 q' m, ?_⟩
      rw [List.take_add_one, List.getElem?_eq_getElem hii, List.map_append]
      have rr := (j4.2 _ (List.getElem_mem hir))
      have nwr : rs[is[i]].1 ≠ wp := fun z => by
        have := (h4.2 _ (List.getElem_mem hir)).2
        rw [z, fwp] at this
        cases this
      have := w4.push (q := rs[is[i]].1) (x := rs[is[i]].2) nwr rr.2
      show RowsAt _ wp (_ ++ [rs.getD is[i] (0, [])])
      rw [eg]
      exact this
    · rintro σ H4 ⟨o6, rfl, s4, d4, p4, w4⟩
      rw [List.length_map, List.take_length] at w4
      refine ⟨_, rfl, _, _, rfl, rfl, by (simp only [Str.length_append, l_open, l_close, l_blank, l_less, l_same, l_not, l_and, l_or, l_pick, l_cols, l_sort, l_first, l_both, l_pair, l_join, l_group, l_picks, l_cb, l_n, l_s, l_bn, l_bs, PySem.sizeLine_eq]; try omega), _, _, rfl, rfl, by (simp only [Str.length_append, l_open, l_close, l_blank, l_less, l_same, l_not, l_and, l_or, l_pick, l_cols, l_sort, l_first, l_both, l_pair, l_join, l_group, l_picks, l_cb, l_n, l_s, l_bn, l_bs, PySem.sizeLine_eq]; try omega), _, rfl, p, _, _, _, rfl, rfl, SqT.of (s4 _ _ h1), atI1, _, _, rfl, rfl, by (simp only [Str.length_append, l_open, l_close, l_blank, l_less, l_same, l_not, l_and, l_or, l_pick, l_cols, l_sort, l_first, l_both, l_pair, l_join, l_group, l_picks, l_cb, l_n, l_s, l_bn, l_bs, PySem.sizeLine_eq]; try omega), _, _, rfl, rfl, by (simp only [Str.length_append, l_open, l_close, l_blank, l_less, l_same, l_not, l_and, l_or, l_pick, l_cols, l_sort, l_first, l_both, l_pair, l_join, l_group, l_picks, l_cb, l_n, l_s, l_bn, l_bs, PySem.sizeLine_eq]; try omega), ?_⟩
      refine ⟨_, rfl, _, rfl, p, _, _, _, rfl, rfl, SqT.of (s4 _ _ h1), atI0, le_line (by show 3 ≤ _; decide), fun qp hqp => ?_⟩
      refine alloc_rd (upd _ qp _) rfl hqp fun H5 n5 x5 => ?_
      refine ⟨_, rfl, _, rfl, p, _, _, _, rfl, rfl, SqT.of (n5 _ _ (s4 _ _ h1)), atI2, _, rfl, le_line (by show 4 ≤ _; decide), fun sp' hsp' => ?_⟩
      refine alloc_rd (upd _ sp' _) rfl hsp' fun H6 n6 x6 => ?_
      have s46 := n5.trans n6
      have s6 := s4.trans s46
      refine fin _ nm _ s6 ⟨sp', _, hp, wp, _, rfl, x6, ⟨qp, qv, rfl, n6 _ _ x5, h2.same s6⟩, s6 _ _ h3, w4.same s46, ?_⟩ mn
      show _ = sortR ((headsOf th q).idxOf nm) (rowsOf th tr q)
      rw [hsp, ← h5]
      unfold sortR
      have e0 : is = sortIx (keyAt (rs.map (·.2)) sp) (rs.map (·.2)).length := by
        rw [List.length_map]
        refine sortIx_uniq pm (List.pairwise_iff_getElem.mpr fun a b ha hb hab => ?_)
        have h0 := List.pairwise_iff_getElem.mp pw a b ha hb hab
        have ka : ∀ i, i < rs.length → keyAt (rs.map (·.2)) sp i = (rs.getD i (0, [])).2.getD sp 0 := fun i hi => by
          unfold keyAt
          rw [snd_getD hi, List.getD_eq_getElem?_getD (l := rs), List.getElem?_eq_getElem hi]
          rfl
        have ma := mem _ (List.getElem_mem ha)
        have mb := mem _ (List.getElem_mem hb)
        rw [pk _ ma, pk _ mb] at h0
        have h0 := of_decide_eq_false h0
        refine decide_eq_true ?_
        rw [ka _ ma, ka _ mb]
        replace h0 : ¬ ((rs.getD is[b] (0, [])).2.getD sp 0 < (rs.getD is[a] (0, [])).2.getD sp 0 ∨ (rs.getD is[b] (0, [])).2.getD sp 0 = (rs.getD is[a] (0, [])).2.getD sp 0 ∧ ((is[b] : Nat) : Int) < ((is[a] : Nat) : Int)) := h0
        omega
      rw [← e0, List.map_map]
      refine List.map_congr_left fun i hi => ?_
      have hir := mem i hi
      show (rs.getD i (0, [])).2 = _
      rw [snd_getD hir, List.getD_eq_getElem?_getD, List.getElem?_eq_getElem hir]
      rfl
theorem keysR_take {s i : Nat} {rows : List (List Int)} {r : List Int} (h : rows[i]? = some r) : keysR s (rows.take (i + 1)) = if r.getD s 0 ∈ keysR s (rows.take i) then keysR s (rows.take i) else keysR s (rows.take i) ++ [r.getD s 0] := by
  unfold keysR
  rw [List.take_add_one, h, List.foldl_append]
  rfl
theorem keysR_len {s : Nat} (rows : List (List Int)) : (keysR s rows).length ≤ rows.length := by
  have go : ∀ (rows : List (List Int)) (acc : List Int), (rows.foldl (fun acc r => if r.getD s 0 ∈ acc then acc else acc ++ [r.getD s 0]) acc).length ≤ acc.length + rows.length := by
    intro rows
    induction rows with
    | nil => intro acc; exact Nat.le_refl _
    | cons r rows ih =>
      intro acc
      rw [List.foldl_cons, List.length_cons]
      refine Nat.le_trans (ih _) ?_
      split
      · omega
      · rw [List.length_append, List.length_singleton]; omega
  have := go rows []
  rw [List.length_nil, Nat.zero_add] at this
  exact this
theorem inV_int {x : Int} : ∀ {xs : List Int}, inV (.int x) (xs.map V.int) = decide (x ∈ xs)
  | [] => by simp [inV]
  | y :: ys => by
    have ih := inV_int (x := x) (xs := ys)
    unfold inV at ih ⊢
    rw [List.map_cons, List.any_cons, ih]
    show ((y == x) || decide (x ∈ ys)) = _
    by_cases h : y = x
    · subst h; simp
    · rw [show (y == x) = false by simpa using h, Bool.false_or]
      by_cases m : x ∈ ys
      · simp [m]
      · have hxy : ¬ x = y := fun z => h z.symm
        simp [m, hxy]
theorem flat_ints (xs : List Int) : (xs.map V.int).all flatV = true := by
  rw [List.all_map]
  exact List.all_eq_true.mpr fun _ _ => rfl
def spCounted (K : PySem.W.Frag) : Sp := fun vs H Q _ => ∃ (th : Str → List Str) (tr : Str → List (List Int)) (q : Qn) (v : V) (seed : Int) (g : Str), vs = [v, .int seed, .str g] ∧ TabOk th tr ∧ StAt th tr H v q ∧ okQ th q ∧ g.length = 1 ∧ (lineOf q).length ≤ 4000000 ∧ (rowsOf th tr q).length ≤ 100000 ∧
  ∀ (v' : V) (a b : Str) (H' : Hp), Same H H' → StAt th tr H' v' (.group a b (("n" : Str) ++ g) (("s" : Str) ++ g) q) → a ∈ headsOf th q → b ∈ headsOf th q → Q v' H'
theorem sc__law_counted : FnScope ["_law_state", "_law_seed", "_law_sign", "_law_by", "_law_of", "_law_spot", "_law_place", "_law_rows", "_law_row", "_law_same", "_law_total", "_law_names", "_law_line", "_law_question"] ["_law_state", "_law_seed", "_law_sign"] (defScope s__law_counted) := ⟨rfl, rfl, rfl, by decide +kernel, rfl, by decide +kernel, by decide +kernel⟩
theorem ok__law_counted (F : Fun K "_law_counted" "_law_counted" s__law_counted f fd) (T : Txt K mg) : FnOk P w K mg base CX0 1 f fd ["_law_state", "_law_seed", "_law_sign"] (spCounted K) := by
  refine F.ok sc__law_counted (fun vs H Q E h => ?_) (fun cdv A outer s H vs Q E hr h => ?_)
  · obtain ⟨th, tr, q, v, seed, g, rfl, _⟩ := h
    rfl
  obtain ⟨th, tr, q, v, seed, g, rfl, TT, hst, hok, gl, hli, hro, fin⟩ := h
  obtain ⟨p, qv, hp, rp, rs, rfl, h1, h2, h3, h4, h5⟩ := hst
  obtain ⟨hne, hnd⟩ := heads_ok TT hok
  have hnl := name_len TT hok
  have hrl := rows_len TT hok
  have hlr : (refs rs).length = rs.length := List.length_map _
  have hrc : rs.length ≤ 100000 := by rw [← h5, List.length_map] at hro; exact hro
  have hlen : (0 : Int) < ((((headsOf th q).map V.str).length : Nat) : Int) := by
    have := List.length_pos_iff.mpr hne
    rw [List.length_map]; omega
  obtain ⟨a, ma, ea⟩ := name_at (i := seed) hne
  obtain ⟨b, mb, eb⟩ := name_at (i := seed / 2) hne
  have ia := index_strs ma
  have ib := index_strs mb
  have la := hnl a ma
  have lb := hnl b mb
  refine ⟨_, (pss_cons (ps_set (i := 3) sc__law_counted.nd rfl (Or.inl rfl) (pe_ix ix_list (pe_ix ix_tup (pv 0) pe_int (fun _ _ => rfl)) (pe_op op_mod (pv 1) (pe_callB call_len_seq rfl T.len PySem.boot_len (pa_conS (pe_ix ix_tup (pv 0) pe_int (fun _ _ => rfl)) pa_nil))) (fun _ _ => rfl)))
    (pss_cons (ps_set (i := 4) sc__law_counted.nd rfl (Or.inl rfl) (pe_ix ix_list (pe_ix ix_tup (pv 0) pe_int (fun _ _ => rfl)) (pe_op op_mod (pe_op op_fdiv (pv 1) pe_int) (pe_callB call_len_seq rfl T.len PySem.boot_len (pa_conS (pe_ix ix_tup (pv 0) pe_int (fun _ _ => rfl)) pa_nil))) (fun _ _ => rfl)))
    (pss_cons (ps_set (i := 5) sc__law_counted.nd rfl (Or.inr rfl) (pe_bm PySem.F.plainAttrs_list PySem.F.slot_list_index PySem.F.type_list_index mt_index (pe_ix ix_tup (pv 0) pe_int (fun _ _ => rfl)) (pa_conN (pv 3) pa_nil)))
    (pss_cons (ps_set (i := 6) sc__law_counted.nd rfl (Or.inr rfl) (pe_bm PySem.F.plainAttrs_list PySem.F.slot_list_index PySem.F.type_list_index mt_index (pe_ix ix_tup (pv 0) pe_int (fun _ _ => rfl)) (pa_conN (pv 4) pa_nil)))
    (pss_cons (ps_set (i := 7) sc__law_counted.nd rfl (Or.inl rfl) (pe_lst pa_nil))
    (pss_cons (ps_for PassesOwn.never rfl (pi_list (pe_ix ix_tup (pv 0) pe_int (fun _ _ => rfl))) (pg_name (i := 8) sc__law_counted.nd rfl (Or.inr rfl))
      (pss_one (ps_if (pt_cmpR op_notIn_seq (pe_ix ix_list (pv 8) (pv 5) (fun _ _ => rfl)) (pe_comp rfl (CompSc.of (sx := defScope s__law_counted) (NX := ["_law_state", "_law_seed", "_law_sign", "_law_by", "_law_of", "_law_spot", "_law_place", "_law_rows", "_law_row", "_law_same", "_law_total", "_law_names", "_law_line", "_law_question"]) (fr := []) (ix := []) rfl rfl (by decide +kernel)) (pi_list (pv 7)) (fun _ _ _ _ _ _ => pif_nil) (fun _ _ _ _ _ _ => (pe_ix (ix_listK (K := K) rfl) (pv 0) pe_int (fun _ _ => rfl)))) (by with_unfolding_all rfl))
        (pss_cons (ps_setComp (j := 9) rfl sc__law_counted.nd rfl (Or.inl rfl) (CompSc.of (sx := defScope s__law_counted) (NX := ["_law_state", "_law_seed", "_law_sign", "_law_by", "_law_of", "_law_spot", "_law_place", "_law_rows", "_law_row", "_law_same", "_law_total", "_law_names", "_law_line", "_law_question"]) (fr := ["_law_spot", "_law_row"]) (ix := [5, 8]) rfl rfl (by decide +kernel)) (pi_list (pe_ix ix_tup (pv 0) pe_int (fun _ _ => rfl))) (fun _ _ _ _ _ _ => (pif_one (pt_cmpR op_eq (pe_ix (ix_listK (K := K) rfl) (pv 0) (pv 1) (fun _ _ => rfl)) (pe_ix (ix_listK (K := K) rfl) (pv 2) (pv 1) (fun _ _ => rfl)) (nomark _)))) (fun _ _ _ _ _ _ => (pv 0)))
        (pss_cons (ps_set (i := 10) sc__law_counted.nd rfl (Or.inl rfl) (pe_callB (call_sum rfl) rfl T.sum PyProof.Rows.boot_sum (pa_conM (pe_comp rfl (CompSc.of (sx := defScope s__law_counted) (NX := ["_law_state", "_law_seed", "_law_sign", "_law_by", "_law_of", "_law_spot", "_law_place", "_law_rows", "_law_row", "_law_same", "_law_total", "_law_names", "_law_line", "_law_question"]) (fr := ["_law_place"]) (ix := [6]) rfl rfl (by decide +kernel)) (pi_list (pv 9)) (fun _ _ _ _ _ _ => pif_nil) (fun _ _ _ _ _ _ => (pe_ix (ix_listK (K := K) rfl) (pv 0) (pv 1) (fun _ _ => rfl)))) pa_nil)))
        (pss_one (ps_expr (pe_bm PySem.F.plainAttrs_list PySem.F.slot_list_append PySem.F.type_list_append mt_append (pv 7) (pa_conL (pe_lst (pa_conS (pe_ix ix_list (pv 8) (pv 5) (fun _ _ => rfl)) (pa_conK (pe_callB call_len_seq rfl T.len PySem.boot_len (pa_conN (pv 9) pa_nil)) (pa_conN (pv 10) pa_nil)))) pa_nil))))))
        pss_nil)))
    (pss_cons (ps_set (i := 11) sc__law_counted.nd rfl (Or.inl rfl) (pe_op op_add_str (pe_op op_add_str (pe_op op_add_str (pe_op op_add_str (pe_op op_add_str (pe_op op_add_str (pv 3) pe_str) (pv 4)) pe_str) (pv 2)) pe_str) (pv 2)))
    (pss_cons (ps_set (i := 12) sc__law_counted.nd rfl (Or.inl rfl) (pe_op op_add_str (pe_op op_add_str (pe_op op_add_str (pe_op op_add_str pe_str (pv 11)) pe_str) (pe_ix ix_tup (pv 0) pe_int (fun _ _ => rfl))) pe_str))
    (pss_cons (ps_set (i := 13) sc__law_counted.nd rfl (Or.inl rfl) (pe_tup (pa_conC pe_str (pa_conN (pv 3) (pa_conN (pv 4) (pa_conB (pe_op op_add_str pe_str (pv 2)) (pa_conB (pe_op op_add_str pe_str (pv 2)) (pa_conS (pe_ix ix_tup (pv 0) pe_int (fun _ _ => rfl)) pa_nil))))))))
    (pss_one (ps_ret (pe_tup (pa_conN (pv 13) (pa_conN (pv 12) (pa_conL (pe_lst (pa_conN (pv 3) (pa_conB (pe_op op_add_str pe_str (pv 2)) (pa_conB (pe_op op_add_str pe_str (pv 2)) pa_nil)))) (pa_conN (pv 7) pa_nil)))))))))))))))), ?_⟩
  refine ⟨_, rfl, p, _, _, _, rfl, rfl, SqT.of h1, atI2, _, rfl, _, rfl, p, _, _, _, rfl, rfl, SqT.of h1, atI2, hp, _, rfl, .inl (SqL.of h3), _, _, rfl, rfl, hlen, hp, _, _, _, rfl, rfl, SqL.of h3, ea, ?_⟩
  refine ⟨_, rfl, p, _, _, _, rfl, rfl, SqT.of h1, atI2, _, rfl, _, _, rfl, rfl, ⟨by decide, by decide⟩, _, rfl, p, _, _, _, rfl, rfl, SqT.of h1, atI2, hp, _, rfl, .inl (SqL.of h3), _, _, rfl, rfl, hlen, hp, _, _, _, rfl, rfl, SqL.of h3, eb, ?_⟩
  refine ⟨_, rfl, p, _, _, _, rfl, rfl, SqT.of h1, atI2, .inl ⟨rfl, _, SqL.of h3⟩, _, rfl, hp, _, _, (headsOf th q).idxOf a, rfl, rfl, SqL.of h3, rfl, flat_strs _, ia.1, ia.2, ?_⟩
  refine ⟨_, rfl, p, _, _, _, rfl, rfl, SqT.of h1, atI2, .inl ⟨rfl, _, SqL.of h3⟩, _, rfl, hp, _, _, (headsOf th q).idxOf b, rfl, rfl, SqL.of h3, rfl, flat_strs _, ib.1, ib.2, ?_⟩
  have rw' : ∀ r ∈ rs, r.2.length = (headsOf th q).length := fun r m => hrl r.2 (by rw [← h5]; exact List.mem_map.mpr ⟨_, m, rfl⟩)
  have sla : ∀ r ∈ rs, (headsOf th q).idxOf a < r.2.length := fun r m => by rw [rw' r m]; exact List.idxOf_lt_length_iff.mpr ma
  have slb : ∀ r ∈ rs, (headsOf th q).idxOf b < r.2.length := fun r m => by rw [rw' r m]; exact List.idxOf_lt_length_iff.mpr mb
  generalize hsa : (headsOf th q).idxOf a = sa at sla
  generalize hsb : (headsOf th q).idxOf b = sb at slb
  refine ⟨le_line (by show 0 ≤ _; decide), fun wp hwp => ?_⟩
  refine alloc_rd (upd _ wp _) rfl hwp fun H1 n1 x1 => ?_
  have nrp : ∀ r ∈ rs, r.1 ≠ wp := fun r m => ne_of_none (h4.2 r m).2 hwp
  refine ⟨_, rfl, p, _, _, _, rfl, rfl, SqT.of (n1 _ _ h1), atI3, rp, rfl, ⟨_, SqL.of (n1 _ _ h4.1)⟩, for_list (K := K) (a := rp) (xs := refs rs) (fun i σ H' => ∃ (qs : List (Addr × List Int)) (o8 o9 o10 : Option V), σ = [some (.ref p), some (.int seed), some (.str g), some (.str a), some (.str b), some (.int ((sa : Nat) : Int)), some (.int ((sb : Nat) : Int)), some (.ref wp), o8, o9, o10, none, none, none] ∧ Same H H' ∧ RowsAt H' wp qs ∧
    qs.map (·.2) = (keysR sa ((rs.map (·.2)).take i)).map (groupOf sa sb (rs.map (·.2)))) ⟨[], none, none, none, rfl, n1, rows_nil x1, rfl⟩ (fun i σ H' _ ⟨_, _, _, _, _, sm, _⟩ => SqL.of (sm _ _ h4.1)) ?_ ?_⟩
  · rintro i x σ H2 hi ⟨qs, o8, o9, o10, rfl, s2, w2, e2⟩
    have hir : i < rs.length := by
      have := (List.getElem?_eq_some_iff.mp hi).1
      rwa [hlr] at this
    rw [at_row hir] at hi
    cases hi
    have kl : (keysR sa ((rs.map (·.2)).take i)).length ≤ 100000 := by
      have := keysR_len (s := sa) ((rs.map (·.2)).take i)
      rw [List.length_take, List.length_map] at this
      omega
    have lq : qs.length = (keysR sa ((rs.map (·.2)).take i)).length := by
      have := congrArg List.length e2
      rwa [List.length_map, List.length_map] at this
    have hlq : (refs qs).length = qs.length := List.length_map _
    have kt := keysR_take (s := sa) (snd_at hir)
    have hR := s2 _ _ (h4.2 _ (List.getElem_mem hir)).2
    have ssa := sla _ (List.getElem_mem hir)
    have qk : qs.map (fun r => r.2.getD 0 0) = keysR sa ((rs.map (·.2)).take i) := by
      have := congrArg (List.map fun r : List Int => r.getD 0 0) e2
      rw [List.map_map, List.map_map] at this
      refine this.trans ?_
      conv => rhs; rw [← List.map_id (keysR sa ((rs.map (·.2)).take i))]
      rfl
    have q3 : ∀ r ∈ qs, r.2.length = 3 := fun r m => by
      have : r.2 ∈ qs.map (·.2) := List.mem_map.mpr ⟨r, m, rfl⟩
      rw [e2] at this
      obtain ⟨k, _, e⟩ := List.mem_map.mp this
      rw [← e]
      rfl
    generalize keysR sa ((rs.map (·.2)).take i) = ks at e2 kl lq kt qk
    refine ⟨_, rfl, _, rfl, rs[i].1, _, _, _, rfl, rfl, SqL.of hR, atI_nat (int_at ssa), _, rfl, wp, rfl, ⟨_, SqL.of w2.1⟩, ?_⟩
    refine comp_listN (xs := refs qs) (fun m ys H' => H' = H2 ∧ ys = ((qs.take m).map fun r => r.2.getD 0 0).map V.int) ⟨rfl, rfl⟩ ?_ ?_ ?_
    · rintro m ys H3 hm ⟨rfl, rfl⟩
      exact ⟨SqL.of w2.1, lt_line (by rw [List.length_map, List.length_map, List.length_take]; omega)⟩
    · rintro m x ys H3 hm ⟨rfl, rfl⟩
      have hmq : m < qs.length := by
        have := (List.getElem?_eq_some_iff.mp hm).1
        rwa [hlq] at this
      rw [at_row hmq] at hm
      cases hm
      refine ⟨_, rfl, qs[m].1, _, _, _, rfl, rfl, SqL.of (w2.2 _ (List.getElem_mem hmq)).2, atI_nat (j := 0) (int_at (by rw [q3 _ (List.getElem_mem hmq)]; decide)), rfl, ?_⟩
      rw [List.take_add_one, List.getElem?_eq_getElem hmq, List.map_append, List.map_append]
      rfl
    · rintro ys H3 ⟨rfl, rfl⟩ lp hlp
      rw [hlq, List.take_length, qk]
      refine alloc_rd (upd _ lp _) rfl hlp fun H3 n3 x3 => ?_
      refine ⟨lp, _, rfl, .inl (SqL.of x3), rfl, flat_ints _, _, rfl, ?_⟩
      rw [inV_int]
      have s3 := s2.trans n3
      have w3 := w2.same n3
      refine ite2 (fun hb => ?_) (fun hb => ?_)
      · have hb' : ¬ rs[i].2.getD sa 0 ∈ ks := by simpa using hb
        rw [if_neg hb'] at kt
        have j3 := h4.same s3
        refine ⟨_, rfl, p, _, _, _, rfl, rfl, SqT.of (s3 _ _ h1), atI3, rp, rfl, ⟨_, SqL.of j3.1⟩, ?_⟩
        refine comp_list (xs := refs rs) (fun m ys H' => H' = H3 ∧ ys = refs ((rs.take m).filter fun r => decide (r.2.getD sa 0 = rs[i].2.getD sa 0))) ⟨rfl, rfl⟩ ?_ ?_ ?_
        · rintro m ys H4 hm ⟨rfl, rfl⟩
          refine ⟨SqL.of j3.1, lt_line ?_⟩
          have := List.length_filter_le (fun r : Addr × List Int => decide (r.2.getD sa 0 = rs[i].2.getD sa 0)) (rs.take m)
          rw [List.length_map]
          rw [List.length_take] at this
          omega
        · rintro m x ys H4 hm ⟨rfl, rfl⟩
          have hmr : m < rs.length := by
            have := (List.getElem?_eq_some_iff.mp hm).1
            rwa [hlr] at this
          rw [at_row hmr] at hm
          cases hm
          have ft := filter_take (fun r : Addr × List Int => decide (r.2.getD sa 0 = rs[i].2.getD sa 0)) rs (List.getElem?_eq_getElem hmr)
          refine ⟨_, rfl, _, rfl, rs[m].1, _, _, _, rfl, rfl, SqL.of (j3.2 _ (List.getElem_mem hmr)).2, atI_nat (int_at (sla _ (List.getElem_mem hmr))), _, rfl, _, rfl, rs[i].1, _, _, _, rfl, rfl, SqL.of (j3.2 _ (List.getElem_mem hir)).2, atI_nat (int_at ssa), rfl, _, rfl, ?_⟩
          rw [dec_intV]
          refine ite2 (fun hc => ?_) (fun hc => ?_)
          · refine ⟨_, rfl, rfl, ?_⟩
            rw [ft, if_pos hc]
            simp [refs]
          · refine ⟨rfl, ?_⟩
            rw [ft, if_neg hc, List.append_nil]
        · rintro ys H4 ⟨rfl, rfl⟩ mp hmp
          rw [hlr, List.take_length]
          refine alloc_rd (upd _ mp _) rfl hmp fun H4 n4 x4 => ?_
          have s4 := s3.trans n4
          have fl : (rs.filter fun r => decide (r.2.getD sa 0 = rs[i].2.getD sa 0)).length ≤ rs.length := List.length_filter_le _ _
          have fm : ∀ r ∈ rs.filter (fun r => decide (r.2.getD sa 0 = rs[i].2.getD sa 0)), r ∈ rs := fun r m => (List.mem_filter.mp m).1
          have fe : (rs.filter fun r => decide (r.2.getD sa 0 = rs[i].2.getD sa 0)).map (·.2) = (rs.map (·.2)).filter fun r => decide (r.getD sa 0 = rs[i].2.getD sa 0) := by
            rw [List.filter_map]
            rfl
          generalize (rs.filter fun r => decide (r.2.getD sa 0 = rs[i].2.getD sa 0)) = fs at x4 fl fm fe
          have hlf : (refs fs).length = fs.length := List.length_map _
          have j4 := h4.same s4
          refine ⟨_, rfl, mp, rfl, ⟨_, SqL.of x4⟩, ?_⟩
          refine comp_listN (xs := refs fs) (fun m ys H' => H' = H4 ∧ ys = ((fs.take m).map fun r => r.2.getD sb 0).map V.int) ⟨rfl, rfl⟩ ?_ ?_ ?_
          · rintro m ys H5 hm ⟨rfl, rfl⟩
            exact ⟨SqL.of x4, lt_line (by rw [List.length_map, List.length_map, List.length_take]; omega)⟩
          · rintro m x ys H5 hm ⟨rfl, rfl⟩
            have hmf : m < fs.length := by
              have := (List.getElem?_eq_some_iff.mp hm).1
              rwa [hlf] at this
            rw [at_row hmf] at hm
            cases hm
            have mr := fm _ (List.getElem_mem hmf)
            refine ⟨_, rfl, _, rfl, fs[m].1, _, _, _, rfl, rfl, SqL.of (j4.2 _ mr).2, atI_nat (int_at (slb _ mr)), rfl, ?_⟩
            rw [List.take_add_one, List.getElem?_eq_getElem hmf, List.map_append, List.map_append]
            rfl
          · rintro ys H5 ⟨rfl, rfl⟩ tp htp
            rw [hlf, List.take_length]
            refine alloc_rd (upd _ tp _) rfl htp fun H5 n5 x5 => ?_
            refine ⟨tp, _, rfl, SqL.of x5, ?_⟩
            have s5 := s4.trans n5
            have w5 := w3.same (n4.trans n5)
            refine ⟨_, rfl, .inl ⟨rfl, _, SqL.of w5.1⟩, _, rfl, _, rfl, rs[i].1, _, _, _, rfl, rfl, SqL.of (s5 _ _ (h4.2 _ (List.getElem_mem hir)).2), atI_nat (int_at ssa), _, rfl, mp, _, rfl, .inl (SqL.of (n5 _ _ x4)), _, rfl, le_line (by show 3 ≤ _; decide), fun gp hgp => ?_⟩
            have n6 := same_new hgp (.lst [V.int (rs[i].2.getD sa 0), V.int (((refs fs).length : Nat) : Int), V.int (fs.map fun r => r.2.getD sb 0).sum])
            have w6 := w5.same n6
            refine ⟨wp, _, _, rfl, rfl, w6.1, lt_line (by rw [List.length_map]; omega), ?_⟩
            have nq : gp ≠ wp := (ne_of_none w5.1 hgp).symm
            refine ⟨qs ++ [(gp, [rs[i].2.getD sa 0, ((fs.length : Nat) : Int), (fs.map fun r => r.2.getD sb 0).sum])], _, _, _, rfl, (s5.trans n6).put hwp, w6.push nq (by rw [upd_same, hlf]; rfl), ?_⟩
            rw [List.map_append, e2, kt, List.map_append]
            congr 1
            show [_] = [groupOf sa sb (rs.map (·.2)) (rs[i].2.getD sa 0)]
            unfold groupOf
            rw [← fe, List.length_map, List.map_map]
            rfl
      · have hb' : rs[i].2.getD sa 0 ∈ ks := by simpa using hb
        rw [if_pos hb'] at kt
        refine ⟨qs, _, _, _, rfl, s3, w3, ?_⟩
        rw [e2, kt]
  · rintro σ H2 ⟨qs, o8, o9, o10, rfl, s2, w2, e2⟩
    rw [hlr, show (rs.map (·.2)).take rs.length = rs.map (·.2) from List.take_of_length_le (by rw [List.length_map]; exact Nat.le_refl _)] at e2
    have g1 := s2 _ _ h1
    refine ⟨_, rfl, _, _, rfl, rfl, by (simp only [Str.length_append, l_open, l_close, l_blank, l_less, l_same, l_not, l_and, l_or, l_pick, l_cols, l_sort, l_first, l_both, l_pair, l_join, l_group, l_picks, l_cb, l_n, l_s, l_bn, l_bs, PySem.sizeLine_eq]; try omega), _, rfl, _, _, rfl, rfl, by (simp only [Str.length_append, l_open, l_close, l_blank, l_less, l_same, l_not, l_and, l_or, l_pick, l_cols, l_sort, l_first, l_both, l_pair, l_join, l_group, l_picks, l_cb, l_n, l_s, l_bn, l_bs, PySem.sizeLine_eq]; try omega), _, _, rfl, rfl, by (simp only [Str.length_append, l_open, l_close, l_blank, l_less, l_same, l_not, l_and, l_or, l_pick, l_cols, l_sort, l_first, l_both, l_pair, l_join, l_group, l_picks, l_cb, l_n, l_s, l_bn, l_bs, PySem.sizeLine_eq]; try omega), _, rfl, _, _, rfl, rfl, by (simp only [Str.length_append, l_open, l_close, l_blank, l_less, l_same, l_not, l_and, l_or, l_pick, l_cols, l_sort, l_first, l_both, l_pair, l_join, l_group, l_picks, l_cb, l_n, l_s, l_bn, l_bs, PySem.sizeLine_eq]; try omega), _, _, rfl, rfl, by (simp only [Str.length_append, l_open, l_close, l_blank, l_less, l_same, l_not, l_and, l_or, l_pick, l_cols, l_sort, l_first, l_both, l_pair, l_join, l_group, l_picks, l_cb, l_n, l_s, l_bn, l_bs, PySem.sizeLine_eq]; try omega), _, rfl, _, _, rfl, rfl, by (simp only [Str.length_append, l_open, l_close, l_blank, l_less, l_same, l_not, l_and, l_or, l_pick, l_cols, l_sort, l_first, l_both, l_pair, l_join, l_group, l_picks, l_cb, l_n, l_s, l_bn, l_bs, PySem.sizeLine_eq]; try omega), ?_⟩
    refine ⟨_, rfl, _, _, rfl, rfl, by (simp only [Str.length_append, l_open, l_close, l_blank, l_less, l_same, l_not, l_and, l_or, l_pick, l_cols, l_sort, l_first, l_both, l_pair, l_join, l_group, l_picks, l_cb, l_n, l_s, l_bn, l_bs, PySem.sizeLine_eq]; try omega), _, _, rfl, rfl, by (simp only [Str.length_append, l_open, l_close, l_blank, l_less, l_same, l_not, l_and, l_or, l_pick, l_cols, l_sort, l_first, l_both, l_pair, l_join, l_group, l_picks, l_cb, l_n, l_s, l_bn, l_bs, PySem.sizeLine_eq]; try omega), _, rfl, p, _, _, _, rfl, rfl, SqT.of g1, atI1, _, _, rfl, rfl, by (simp only [Str.length_append, l_open, l_close, l_blank, l_less, l_same, l_not, l_and, l_or, l_pick, l_cols, l_sort, l_first, l_both, l_pair, l_join, l_group, l_picks, l_cb, l_n, l_s, l_bn, l_bs, PySem.sizeLine_eq]; try omega), _, _, rfl, rfl, by (simp only [Str.length_append, l_open, l_close, l_blank, l_less, l_same, l_not, l_and, l_or, l_pick, l_cols, l_sort, l_first, l_both, l_pair, l_join, l_group, l_picks, l_cb, l_n, l_s, l_bn, l_bs, PySem.sizeLine_eq]; try omega), ?_⟩
    refine ⟨_, rfl, _, rfl, _, rfl, _, _, rfl, rfl, by (simp only [Str.length_append, l_open, l_close, l_blank, l_less, l_same, l_not, l_and, l_or, l_pick, l_cols, l_sort, l_first, l_both, l_pair, l_join, l_group, l_picks, l_cb, l_n, l_s, l_bn, l_bs, PySem.sizeLine_eq]; try omega), _, rfl, _, _, rfl, rfl, by (simp only [Str.length_append, l_open, l_close, l_blank, l_less, l_same, l_not, l_and, l_or, l_pick, l_cols, l_sort, l_first, l_both, l_pair, l_join, l_group, l_picks, l_cb, l_n, l_s, l_bn, l_bs, PySem.sizeLine_eq]; try omega), _, rfl, p, _, _, _, rfl, rfl, SqT.of g1, atI0, le_line (by show 6 ≤ _; decide), fun qp hqp => ?_⟩
    refine alloc_rd (upd _ qp _) rfl hqp fun H3 n3 x3 => ?_
    refine ⟨_, rfl, _, rfl, _, rfl, _, rfl, _, _, rfl, rfl, by (simp only [Str.length_append, l_open, l_close, l_blank, l_less, l_same, l_not, l_and, l_or, l_pick, l_cols, l_sort, l_first, l_both, l_pair, l_join, l_group, l_picks, l_cb, l_n, l_s, l_bn, l_bs, PySem.sizeLine_eq]; try omega), _, rfl, _, _, rfl, rfl, by (simp only [Str.length_append, l_open, l_close, l_blank, l_less, l_same, l_not, l_and, l_or, l_pick, l_cols, l_sort, l_first, l_both, l_pair, l_join, l_group, l_picks, l_cb, l_n, l_s, l_bn, l_bs, PySem.sizeLine_eq]; try omega), le_line (by show 3 ≤ _; decide), fun lp hlp => ?_⟩
    refine alloc_rd (upd _ lp _) rfl hlp fun H4 n4 x4 => ?_
    refine ⟨_, rfl, le_line (by show 4 ≤ _; decide), fun sp hsp => ?_⟩
    refine alloc_rd (upd _ sp _) rfl hsp fun H5 n5 x5 => ?_
    have s25 := n3.trans (n4.trans n5)
    have s5 := s2.trans s25
    have el : (("(group " : Str) ++ (a ++ " " ++ b ++ " n" ++ g ++ " s" ++ g) ++ " " ++ lineOf q ++ ")" : Str) = lineOf (.group a b (("n" : Str) ++ g) (("s" : Str) ++ g) q) := by
      simp only [lineOf]
      have e1 : (" n" : Str) = (" " : Str) ++ ("n" : Str) := by decide +kernel
      have e2 : (" s" : Str) = (" " : Str) ++ ("s" : Str) := by decide +kernel
      rw [e1, e2]
      simp only [Str.append_assoc]
    rw [el] at x5
    refine fin _ a b _ s5 ⟨sp, _, lp, wp, qs, rfl, x5, ⟨qp, qv, rfl, n5 _ _ (n4 _ _ x3), h2.same s5⟩, n5 _ _ x4, w2.same s25, ?_⟩ ma mb
    rw [e2, h5]
    simp only [rowsOf, groupQ, hsa, hsb]
structure Rt (th : Str → List Str) (tr : Str → List (List Int)) (n : Str) (r : Qn) (k : Nat) : Prop where
  ok : okQ th r
  hd : headsOf th r = th n
  ln : (rowsOf th tr r).length ≤ (tr n).length
  li : (lineOf r).length ≤ 10 + 100 * k
  dp : depth r ≤ 1 + 2 * k
structure Un2 (th : Str → List Str) (tr : Str → List (List Int)) (q : Qn) (n : Str) (q' : Qn) : Prop where
  ok : okQ th q'
  hd : headsOf th q' = headsOf th q ++ th n ∨ headsOf th q' = th n ++ headsOf th q
  ln : (rowsOf th tr q').length ≤ (rowsOf th tr q).length * (tr n).length
  li : (lineOf q').length ≤ (lineOf q).length + 600
  dp : depth q' ≤ max (depth q) 5 + 2
theorem pairs_len (xs ys : List (List Int)) : (pairs xs ys).length = xs.length * ys.length := by
  unfold pairs
  induction xs with
  | nil => simp
  | cons x xs ih =>
    rw [List.flatMap_cons, List.length_append, List.length_map, ih, List.length_cons, Nat.add_mul, Nat.one_mul, Nat.add_comm]
theorem pairs_take {xs ys : List (List Int)} {i : Nat} {x : List Int} (h : xs[i]? = some x) : pairs (xs.take (i + 1)) ys = pairs (xs.take i) ys ++ ys.map fun y => x ++ y := by
  unfold pairs
  rw [List.take_add_one, h, List.flatMap_append]
  simp
theorem sortR_len (s : Nat) (rows : List (List Int)) : (sortR s rows).length = rows.length := by
  unfold sortR
  rw [List.length_map, sortIx_len]
def spUnited (K : PySem.W.Frag) : Sp := fun vs H Q _ => ∃ (th : Str → List Str) (tr : Str → List (List Int)) (q : Qn) (n : Str) (v tv : V) (seed : Int), vs = [v, tv, .int seed] ∧ TabOk th tr ∧ StAt th tr H v q ∧ okQ th q ∧ TabAt th tr H tv n ∧ n ∈ tabs ∧ (∀ x ∈ headsOf th q, x ∉ th n) ∧
  (lineOf q).length ≤ 4000000 ∧ (rowsOf th tr q).length ≤ 1000 ∧ (tr n).length < 64 ∧ (headsOf th q).length ≤ 1000 ∧ (th n).length ≤ 1000 ∧
  ∀ (v' : V) (q' : Qn) (H' : Hp), Same H H' → StAt th tr H' v' q' → Un2 th tr q n q' → Q v' H'
theorem tabs_len : ∀ n ∈ tabs, n.length ≤ 10 := by decide +kernel
theorem idx_mem {hs : List Str} {r : List Int} {s : Str} (h : s ∈ hs) (hl : r.length = hs.length) : hs.idxOf s < r.length := by rw [hl]; exact List.idxOf_lt_length_iff.mpr h
theorem sc__law_united : FnScope ["_law_state", "_law_table", "_law_seed", "_law_left", "_law_right", "_law_heads", "_law_rows", "_law_one", "_law_two", "_law_name", "_law_other", "_law_line", "_law_question", "_law_spot", "_law_place", "_law_same"] ["_law_state", "_law_table", "_law_seed"] (defScope s__law_united) := ⟨rfl, rfl, rfl, by decide +kernel, rfl, by decide +kernel, by decide +kernel⟩
set_option maxHeartbeats 1600000 in
theorem ok__law_united (F : Fun K "_law_united" "_law_united" s__law_united f fd) (T : Txt K mg) (C_law_sorted : Kn P w K mg base 1 "_law_sorted" ["_law_state", "_law_seed"] (spSorted K)) (C_law_headed : Kn P w K mg base 1 "_law_headed" ["_law_state", "_law_seed"] (spHeaded K)) : FnOk P w K mg base CX0 2 f fd ["_law_state", "_law_table", "_law_seed"] (spUnited K) := by
  refine F.ok sc__law_united (fun vs H Q E h => ?_) (fun cdv A outer s H vs Q E hr h => ?_)
  · obtain ⟨th, tr, q, n, v, tv, seed, rfl, _⟩ := h
    rfl
  obtain ⟨th, tr, q, n, v, tv, seed, rfl, TT, hst, hok, ht, mn, dj, hli, hro, hrt, hhl, hht, fin⟩ := h
  obtain ⟨tp, thp, trp, ts, rfl, t1, t3, t4, t5⟩ := ht
  have nl := tabs_len n mn
  have hu := hu_of hr
  refine ⟨_, (pss_cons (ps_set (i := 3) sc__law_united.nd rfl (Or.inl rfl) (pv 0))
    (pss_cons (ps_set (i := 4) sc__law_united.nd rfl (Or.inl rfl) (pe_tup (pa_conT (pe_tup (pa_conC pe_str (pa_conS (pe_ix ix_tup (pv 1) pe_int (fun _ _ => rfl)) pa_nil))) (pa_conS (pe_ix ix_tup (pv 1) pe_int (fun _ _ => rfl)) (pa_conS (pe_ix ix_tup (pv 1) pe_int (fun _ _ => rfl)) (pa_conS (pe_ix ix_tup (pv 1) pe_int (fun _ _ => rfl)) pa_nil))))))
    (pss_cons (ps_ifJ (pt_cmpR op_eq (pe_op op_mod (pv 2) pe_int) pe_int (nomark _))
      (pss_one (ps_set (i := 4) sc__law_united.nd rfl (Or.inl rfl) (pe_callF C_law_sorted (hr.mono (by first | decide | omega)) rfl (pa_conN (pv 4) (pa_conB (pe_op op_fdiv (pv 2) pe_int) pa_nil)))))
      pss_nil)
    (pss_cons (ps_ifJ (pt_cmpR op_eq (pe_op op_mod (pv 2) pe_int) pe_int (nomark _))
      (pss_one (ps_set (i := 4) sc__law_united.nd rfl (Or.inl rfl) (pe_callF C_law_headed (hr.mono (by first | decide | omega)) rfl (pa_conN (pv 4) (pa_conC pe_int pa_nil)))))
      pss_nil)
    (pss_cons (ps_ifJ (pt_cmpR op_eq (pe_op op_mod (pe_op op_fdiv (pv 2) pe_int) pe_int) pe_int (nomark _))
      (pss_cons (ps_set (i := 3) sc__law_united.nd rfl (Or.inl rfl) (pv 4))
      (pss_one (ps_set (i := 4) sc__law_united.nd rfl (Or.inl rfl) (pv 0))))
      pss_nil)
    (pss_cons (ps_set (i := 5) sc__law_united.nd rfl (Or.inl rfl) (pe_op op_cat (pe_ix ix_tup (pv 3) pe_int (fun _ _ => rfl)) (pe_ix ix_tup (pv 4) pe_int (fun _ _ => rfl))))
    (pss_cons (ps_set (i := 6) sc__law_united.nd rfl (Or.inl rfl) (pe_lst pa_nil))
    (pss_cons (ps_for PassesOwn.never rfl (pi_list (pe_ix ix_tup (pv 3) pe_int (fun _ _ => rfl))) (pg_name (i := 7) sc__law_united.nd rfl (Or.inl rfl))
      (pss_one (ps_for PassesOwn.never rfl (pi_list (pe_ix ix_tup (pv 4) pe_int (fun _ _ => rfl))) (pg_name (i := 8) sc__law_united.nd rfl (Or.inl rfl))
        (pss_one (ps_expr (pe_bm PySem.F.plainAttrs_list PySem.F.slot_list_append PySem.F.type_list_append mt_append (pv 6) (pa_conB (pe_op op_cat (pv 7) (pv 8)) pa_nil)))))))
    (pss_cons (ps_set (i := 9) sc__law_united.nd rfl (Or.inl rfl) (pe_ix ix_list (pe_ix ix_tup (pv 3) pe_int (fun _ _ => rfl)) (pe_op op_mod (pe_op op_fdiv (pv 2) pe_int) (pe_callB call_len_seq rfl T.len PySem.boot_len (pa_conS (pe_ix ix_tup (pv 3) pe_int (fun _ _ => rfl)) pa_nil))) (fun _ _ => rfl)))
    (pss_cons (ps_set (i := 10) sc__law_united.nd rfl (Or.inl rfl) (pe_ix ix_list (pe_ix ix_tup (pv 4) pe_int (fun _ _ => rfl)) (pe_op op_mod (pe_op op_fdiv (pv 2) pe_int) (pe_callB call_len_seq rfl T.len PySem.boot_len (pa_conS (pe_ix ix_tup (pv 4) pe_int (fun _ _ => rfl)) pa_nil))) (fun _ _ => rfl)))
    (pss_cons (ps_set (i := 11) sc__law_united.nd rfl (Or.inl rfl) (pe_op op_add_str (pe_op op_add_str (pe_op op_add_str (pe_op op_add_str pe_str (pe_ix ix_tup (pv 3) pe_int (fun _ _ => rfl))) pe_str) (pe_ix ix_tup (pv 4) pe_int (fun _ _ => rfl))) pe_str))
    (pss_cons (ps_set (i := 12) sc__law_united.nd rfl (Or.inl rfl) (pe_tup (pa_conC pe_str (pa_conS (pe_ix ix_tup (pv 3) pe_int (fun _ _ => rfl)) (pa_conS (pe_ix ix_tup (pv 4) pe_int (fun _ _ => rfl)) pa_nil)))))
    (pss_cons (ps_if (pt_cmpR op_eq (pe_op op_mod (pv 2) pe_int) pe_int (nomark _))
      (pss_one (ps_ret (pe_tup (pa_conN (pv 12) (pa_conN (pv 11) (pa_conN (pv 5) (pa_conN (pv 6) pa_nil)))))))
      pss_nil)
    (pss_cons (ps_set (i := 13) sc__law_united.nd rfl (Or.inr rfl) (pe_bm PySem.F.plainAttrs_list PySem.F.slot_list_index PySem.F.type_list_index mt_index (pv 5) (pa_conN (pv 9) pa_nil)))
    (pss_cons (ps_set (i := 14) sc__law_united.nd rfl (Or.inr rfl) (pe_bm PySem.F.plainAttrs_list PySem.F.slot_list_index PySem.F.type_list_index mt_index (pv 5) (pa_conN (pv 10) pa_nil)))
    (pss_cons (ps_setComp (j := 15) rfl sc__law_united.nd rfl (Or.inl rfl) (CompSc.of (sx := defScope s__law_united) (NX := ["_law_state", "_law_table", "_law_seed", "_law_left", "_law_right", "_law_heads", "_law_rows", "_law_one", "_law_two", "_law_name", "_law_other", "_law_line", "_law_question", "_law_spot", "_law_place", "_law_same"]) (fr := ["_law_spot", "_law_place"]) (ix := [13, 14]) rfl rfl (by decide +kernel)) (pi_list (pv 6)) (fun _ _ _ _ _ _ => (pif_one (pt_cmpR op_eq (pe_ix (ix_listK (K := K) rfl) (pv 0) (pv 1) (fun _ _ => rfl)) (pe_ix (ix_listK (K := K) rfl) (pv 0) (pv 2) (fun _ _ => rfl)) (nomark _)))) (fun _ _ _ _ _ _ => (pv 0)))
    (pss_cons (ps_if (pt_andP (pt_cmpR (op_eqNil hu) (pv 15) (pe_lst pa_nil) (nomark _)) (pt_cmpR op_gt (pe_op op_mod (pv 2) pe_int) pe_int (nomark _)))
      (pss_one (ps_ret (pe_tup (pa_conN (pv 12) (pa_conN (pv 11) (pa_conN (pv 5) (pa_conN (pv 6) pa_nil)))))))
      pss_nil)
    (pss_cons (ps_set (i := 6) sc__law_united.nd rfl (Or.inl rfl) (pv 15))
    (pss_cons (ps_ifJ (pt_cmpR op_eq (pe_op op_mod (pv 2) pe_int) pe_int (nomark _))
      (pss_cons (ps_set (i := 11) sc__law_united.nd rfl (Or.inl rfl) (pe_op op_add_str (pe_op op_add_str (pe_op op_add_str (pe_op op_add_str (pe_op op_add_str (pe_op op_add_str (pe_op op_add_str (pe_op op_add_str pe_str (pv 9)) pe_str) (pv 10)) pe_str) (pe_ix ix_tup (pv 3) pe_int (fun _ _ => rfl))) pe_str) (pe_ix ix_tup (pv 4) pe_int (fun _ _ => rfl))) pe_str))
      (pss_one (ps_set (i := 12) sc__law_united.nd rfl (Or.inl rfl) (pe_tup (pa_conC pe_str (pa_conN (pv 9) (pa_conN (pv 10) (pa_conS (pe_ix ix_tup (pv 3) pe_int (fun _ _ => rfl)) (pa_conS (pe_ix ix_tup (pv 4) pe_int (fun _ _ => rfl)) pa_nil)))))))))
      (pss_one (ps_if (pt_cmpR op_eq (pe_op op_mod (pv 2) pe_int) pe_int (nomark _))
        (pss_cons (ps_set (i := 11) sc__law_united.nd rfl (Or.inl rfl) (pe_op op_add_str (pe_op op_add_str (pe_op op_add_str (pe_op op_add_str (pe_op op_add_str (pe_op op_add_str pe_str (pv 10)) pe_str) (pv 9)) pe_str) (pv 11)) pe_str))
        (pss_one (ps_set (i := 12) sc__law_united.nd rfl (Or.inl rfl) (pe_tup (pa_conC pe_str (pa_conT (pe_tup (pa_conC pe_str (pa_conN (pv 10) (pa_conN (pv 9) pa_nil)))) (pa_conN (pv 12) pa_nil)))))))
        (pss_cons (ps_set (i := 11) sc__law_united.nd rfl (Or.inl rfl) (pe_op op_add_str (pe_op op_add_str (pe_op op_add_str (pe_op op_add_str (pe_op op_add_str (pe_op op_add_str pe_str (pv 9)) pe_str) (pv 10)) pe_str) (pv 11)) pe_str))
        (pss_one (ps_set (i := 12) sc__law_united.nd rfl (Or.inl rfl) (pe_tup (pa_conC pe_str (pa_conT (pe_tup (pa_conC pe_str (pa_conN (pv 9) (pa_conN (pv 10) pa_nil)))) (pa_conN (pv 12) pa_nil))))))))))
    (pss_one (ps_ret (pe_tup (pa_conN (pv 12) (pa_conN (pv 11) (pa_conN (pv 5) (pa_conN (pv 6) pa_nil)))))))))))))))))))))))))), ?_⟩
  refine ⟨_, rfl, ?_⟩
  refine ⟨_, rfl, tp, _, _, _, rfl, rfl, SqT.of t1, atI0, le_line (by show 2 ≤ _; decide), fun qp hqp => ?_⟩
  refine alloc_rd (upd _ qp _) rfl hqp fun H1 n1 x1 => ?_
  have t1' := n1 _ _ t1
  refine ⟨_, rfl, tp, _, _, _, rfl, rfl, SqT.of t1', atI0, _, rfl, tp, _, _, _, rfl, rfl, SqT.of t1', atI1, _, rfl, tp, _, _, _, rfl, rfl, SqT.of t1', atI2, le_line (by show 4 ≤ _; decide), fun sp0 hsp0 => ?_⟩
  refine alloc_rd (upd _ sp0 _) rfl hsp0 fun H2 n2 x2 => ?_
  have s2 := n1.trans n2
  have st2 : StAt th tr H2 (.ref sp0) (.table n) := ⟨sp0, _, thp, trp, ts, rfl, x2, ⟨qp, rfl, n2 _ _ x1⟩, s2 _ _ t3, t4.same s2, t5⟩
  have rt2 : Rt th tr n (.table n) 0 := ⟨mn, rfl, Nat.le_refl _, nl, Nat.le_refl _⟩
  refine ⟨fun σ H3 => ∃ (rv : V) (r : Qn), σ = [some v, some (.ref tp), some (.int seed), some v, some rv, none, none, none, none, none, none, none, none, none, none, none] ∧ Same H H3 ∧ StAt th tr H3 rv r ∧ Rt th tr n r 1, ?_, ?_⟩
  · refine ⟨_, rfl, _, _, rfl, rfl, (by show (0 : Int) < 7; decide), rfl, _, rfl, ?_⟩
    refine ite2 (fun hb => ?_) (fun hb => ?_)
    · refine ⟨_, rfl, _, rfl, _, _, rfl, rfl, ⟨by decide, by decide⟩, th, tr, .table n, _, _, rfl, TT, st2, mn, by have : (lineOf (.table n)).length ≤ 10 := nl; omega, hrt, fun v' a H' s' st' ma => ?_⟩
      refine ⟨v', _, rfl, s2.trans s', st', ⟨ma, mn⟩, rfl, by show (sortR _ _).length ≤ _; rw [sortR_len]; exact Nat.le_refl _, ?_, by show 1 + 1 ≤ 1 + 2 * 1; decide⟩
      have la := tab_names TT n mn a ma
      simp only [lineOf]
      (simp only [Str.length_append, l_open, l_close, l_blank, l_less, l_same, l_not, l_and, l_or, l_pick, l_cols, l_sort, l_first, l_both, l_pair, l_join, l_group, l_picks, l_cb, l_n, l_s, l_bn, l_bs, PySem.sizeLine_eq]; try omega)
    · exact ⟨_, _, rfl, s2, st2, rt2.ok, rt2.hd, rt2.ln, by have := rt2.li; omega, by have := rt2.dp; omega⟩
  rintro σ H3 ⟨rv, r, rfl, s3, st3, rt3⟩
  refine ⟨fun σ H4 => ∃ (rv : V) (r : Qn), σ = [some v, some (.ref tp), some (.int seed), some v, some rv, none, none, none, none, none, none, none, none, none, none, none] ∧ Same H H4 ∧ StAt th tr H4 rv r ∧ Rt th tr n r 2, ?_, ?_⟩
  · refine ⟨_, rfl, _, _, rfl, rfl, (by show (0 : Int) < 7; decide), rfl, _, rfl, ?_⟩
    refine ite2 (fun hb => ?_) (fun hb => ?_)
    · refine ⟨_, rfl, th, tr, r, _, _, rfl, st3, by have := rt3.li; omega, fun v' q' H' s' st' hq' => ?_⟩
      refine ⟨v', q', rfl, s3.trans s', st', ?_⟩
      obtain ⟨m, mm, hq'⟩ := hq'
      have lm := (many_len m mm).1
      have li3 := rt3.li
      have dp3 := rt3.dp
      rcases hq' with rfl | ⟨m', mm', rfl⟩
      · refine ⟨⟨mm, rt3.ok⟩, rt3.hd, ?_, ?_, ?_⟩
        · show ((rowsOf th tr r).take _).length ≤ _
          rw [List.length_take]
          have := rt3.ln
          omega
        · simp only [lineOf]
          (simp only [Str.length_append, l_open, l_close, l_blank, l_less, l_same, l_not, l_and, l_or, l_pick, l_cols, l_sort, l_first, l_both, l_pair, l_join, l_group, l_picks, l_cb, l_n, l_s, l_bn, l_bs, PySem.sizeLine_eq]; try omega)
        · show depth r + 1 ≤ _
          omega
      · have lm' := (many_len m' mm').1
        refine ⟨⟨mm', mm, rt3.ok⟩, rt3.hd, ?_, ?_, ?_⟩
        · show (((rowsOf th tr r).take _).take _).length ≤ _
          rw [List.length_take, List.length_take]
          have := rt3.ln
          omega
        · simp only [lineOf]
          (simp only [Str.length_append, l_open, l_close, l_blank, l_less, l_same, l_not, l_and, l_or, l_pick, l_cols, l_sort, l_first, l_both, l_pair, l_join, l_group, l_picks, l_cb, l_n, l_s, l_bn, l_bs, PySem.sizeLine_eq]; try omega)
        · show depth r + 1 + 1 ≤ _
          omega
    · exact ⟨_, _, rfl, s3, st3, rt3.ok, rt3.hd, rt3.ln, by have := rt3.li; omega, by have := rt3.dp; omega⟩
  clear st3 rt3
  rintro σ H4 ⟨rv, r, rfl, s4, st4, rt4⟩
  have li4 := rt4.li
  have dp4 := rt4.dp
  have ln4 := rt4.ln
  have djr : ∀ x ∈ headsOf th q, x ∉ headsOf th r := by rw [rt4.hd]; exact dj
  have hst4 := hst.same s4
  have llr : (lineOf r).length ≤ 300 := by omega
  refine ⟨fun σ H5 => ∃ (lv wv : V) (ql qr : Qn), σ = [some v, some (.ref tp), some (.int seed), some lv, some wv, none, none, none, none, none, none, none, none, none, none, none] ∧ H5 = H4 ∧ StAt th tr H4 lv ql ∧ StAt th tr H4 wv qr ∧ okQ th ql ∧ okQ th qr ∧ (∀ x ∈ headsOf th ql, x ∉ headsOf th qr) ∧ (lineOf ql).length + (lineOf qr).length ≤ (lineOf q).length + 300 ∧
    (rowsOf th tr ql).length * (rowsOf th tr qr).length ≤ (rowsOf th tr q).length * (tr n).length ∧ (rowsOf th tr ql).length ≤ 1000 ∧ (rowsOf th tr qr).length ≤ 1000 ∧ (headsOf th ql).length ≤ 1000 ∧ (headsOf th qr).length ≤ 1000 ∧ (headsOf th ql ++ headsOf th qr = headsOf th q ++ th n ∨ headsOf th ql ++ headsOf th qr = th n ++ headsOf th q) ∧ max (depth ql) (depth qr) ≤ max (depth q) 5, ?_, ?_⟩
  · refine ⟨_, rfl, _, _, rfl, rfl, ⟨by decide, by decide⟩, _, _, rfl, rfl, (by show (0 : Int) < 2; decide), rfl, _, rfl, ?_⟩
    refine ite2 (fun hb => ?_) (fun hb => ?_)
    · refine ⟨_, rfl, ?_⟩
      refine ⟨_, rfl, ?_⟩
      refine ⟨_, _, r, q, rfl, rfl, st4, hst4, rt4.ok, hok, fun x hx hy => djr x hy hx, by omega, ?_, by omega, hro, by rw [rt4.hd]; exact hht, hhl, .inr (by rw [rt4.hd]), by omega⟩
      rw [Nat.mul_comm]
      exact Nat.mul_le_mul_left _ ln4
    · exact ⟨_, _, q, r, rfl, rfl, hst4, st4, hok, rt4.ok, djr, by omega, Nat.mul_le_mul_left _ ln4, hro, by omega, hhl, by rw [rt4.hd]; exact hht, .inl (by rw [rt4.hd]), by omega⟩
  rintro σ H5 ⟨lv, wv, ql, qr, rfl, rfl, stl, str, okl, okr, dlr, lil, rol, rl1, rl2, hl1, hl2, hdl, dpl⟩
  have nel := heads_ok TT okl
  have ner := heads_ok TT okr
  have nml := name_len TT okl
  have nmr := name_len TT okr
  have rwl := rows_len TT okl
  have rwr := rows_len TT okr
  obtain ⟨p1, qv1, hp1, rp1, rs1, rfl, a1, a2, a3, a4, a5⟩ := stl
  obtain ⟨p2, qv2, hp2, rp2, rs2, rfl, b1, b2, b3, b4, b5⟩ := str
  have l1 : rs1.length ≤ 1000 := by rw [← a5, List.length_map] at rl1; exact rl1
  have l2 : rs2.length ≤ 1000 := by rw [← b5, List.length_map] at rl2; exact rl2
  have hlr1 : (refs rs1).length = rs1.length := List.length_map _
  have hlr2 : (refs rs2).length = rs2.length := List.length_map _
  have w1 : ∀ r ∈ rs1, r.2.length = (headsOf th ql).length := fun r m => rwl r.2 (by rw [← a5]; exact List.mem_map.mpr ⟨_, m, rfl⟩)
  have w2 : ∀ r ∈ rs2, r.2.length = (headsOf th qr).length := fun r m => rwr r.2 (by rw [← b5]; exact List.mem_map.mpr ⟨_, m, rfl⟩)
  refine ⟨_, rfl, p1, _, _, _, rfl, rfl, SqT.of a1, atI2, _, rfl, p2, _, _, _, rfl, rfl, SqT.of b1, atI2, _, _, _, _, rfl, rfl, a3, b3, le_line (by rw [List.length_map, List.length_map]; omega), fun hp hhp => ?_⟩
  rw [← List.map_append]
  refine alloc_rd (upd _ hp _) rfl hhp fun H6 n6 x6 => ?_
  refine ⟨le_line (by show 0 ≤ _; decide), fun wp hwp => ?_⟩
  refine alloc_rd (upd _ wp _) rfl hwp fun H7 n7 x7 => ?_
  have n57 := n6.trans n7
  have f5 : H5 wp = none := n6.free hwp
  refine ⟨_, rfl, p1, _, _, _, rfl, rfl, SqT.of (n57 _ _ a1), atI3, rp1, rfl, ⟨_, SqL.of (n57 _ _ a4.1)⟩, for_list (K := K) (a := rp1) (xs := refs rs1) (fun i σ H' => ∃ (ds : List (Addr × List Int)) (o7 o8 : Option V), σ = [some v, some (.ref tp), some (.int seed), some (.ref p1), some (.ref p2), some (.ref hp), some (.ref wp), o7, o8, none, none, none, none, none, none, none] ∧ Same H6 H' ∧ RowsAt H' wp ds ∧
    ds.map (·.2) = pairs ((rs1.map (·.2)).take i) (rs2.map (·.2)) ∧ ds.length ≤ i * 1000) ⟨[], none, none, rfl, n7, rows_nil x7, rfl, Nat.le_refl _⟩ (fun i σ H' _ ⟨_, _, _, _, sm, _⟩ => SqL.of (sm _ _ (n6 _ _ a4.1))) ?_ ?_⟩
  · rintro i x σ H8 hi ⟨ds, o7, o8, rfl, s8, hd, ed, ld⟩
    have hir : i < rs1.length := by
      have := (List.getElem?_eq_some_iff.mp hi).1
      rwa [hlr1] at this
    rw [at_row hir] at hi
    cases hi
    have n58 := n6.trans s8
    refine ⟨_, rfl, p2, _, _, _, rfl, rfl, SqT.of (n58 _ _ b1), atI3, rp2, rfl, ⟨_, SqL.of (n58 _ _ b4.1)⟩, for_list (K := K) (a := rp2) (xs := refs rs2) (fun j σ H' => ∃ (ds : List (Addr × List Int)) (o8 : Option V), σ = [some v, some (.ref tp), some (.int seed), some (.ref p1), some (.ref p2), some (.ref hp), some (.ref wp), some (.ref rs1[i].1), o8, none, none, none, none, none, none, none] ∧ Same H6 H' ∧ RowsAt H' wp ds ∧
      ds.map (·.2) = pairs ((rs1.map (·.2)).take i) (rs2.map (·.2)) ++ ((rs2.map (·.2)).take j).map (fun o => rs1[i].2 ++ o) ∧ ds.length ≤ i * 1000 + j) ⟨ds, o8, rfl, s8, hd, by rw [ed]; simp, by omega⟩ (fun j σ H' _ ⟨_, _, _, sm, _⟩ => SqL.of (sm _ _ (n6 _ _ b4.1))) ?_ ?_⟩
    · rintro j y σ H9 hj ⟨ds, o8, rfl, s9, hd, ed, ld⟩
      have hjo : j < rs2.length := by
        have := (List.getElem?_eq_some_iff.mp hj).1
        rwa [hlr2] at this
      rw [at_row hjo] at hj
      cases hj
      have n59 := n6.trans s9
      have hR := n59 _ _ (a4.2 _ (List.getElem_mem hir)).2
      have hO := n59 _ _ (b4.2 _ (List.getElem_mem hjo)).2
      have wl1 := w1 _ (List.getElem_mem hir)
      have wl2 := w2 _ (List.getElem_mem hjo)
      refine ⟨_, rfl, .inl ⟨rfl, _, SqL.of hd.1⟩, _, rfl, _, rfl, _, _, _, _, rfl, rfl, hR, hO, le_line (by rw [List.length_map, List.length_map]; omega), fun q1 hq1 => ?_⟩
      have nn := same_new hq1 (.lst (rs1[i].2.map V.int ++ rs2[j].2.map V.int))
      have hd1 := hd.same nn
      refine ⟨wp, _, _, rfl, rfl, hd1.1, lt_line (by rw [List.length_map]; omega), ?_⟩
      have nq : q1 ≠ wp := (ne_of_none hd.1 hq1).symm
      refine ⟨ds ++ [(q1, rs1[i].2 ++ rs2[j].2)], _, rfl, (s9.trans nn).put hwp, hd1.push nq (by rw [upd_same, List.map_append]), ?_, by rw [List.length_append, List.length_singleton]; omega⟩
      rw [List.map_append, ed, List.take_add_one, snd_at hjo, List.map_append, List.append_assoc]
      rfl
    · rintro σ H9 ⟨ds, o8, rfl, s9, hd, ed, ld⟩
      refine ⟨ds, _, _, rfl, s9, hd, ?_, by rw [hlr2] at ld; omega⟩
      rw [ed, pairs_take (snd_at hir), hlr2, show (rs2.map (·.2)).take rs2.length = rs2.map (·.2) from List.take_of_length_le (by rw [List.length_map]; exact Nat.le_refl _)]
  rintro σ H8 ⟨ds, o7, o8, rfl, s8, hd, ed, ld⟩
  rw [hlr1, show (rs1.map (·.2)).take rs1.length = rs1.map (·.2) from List.take_of_length_le (by rw [List.length_map]; exact Nat.le_refl _), a5, b5] at ed
  have n58 := n6.trans s8
  have s58 := s4.trans n58
  have x8 := s8 _ _ x6
  have a8 := n58 _ _ a1
  have b8 := n58 _ _ b1
  have hlen1 : (0 : Int) < ((((headsOf th ql).map V.str).length : Nat) : Int) := by
    have := List.length_pos_iff.mpr nel.1
    rw [List.length_map]; omega
  have hlen2 : (0 : Int) < ((((headsOf th qr).map V.str).length : Nat) : Int) := by
    have := List.length_pos_iff.mpr ner.1
    rw [List.length_map]; omega
  obtain ⟨a, ma, ea⟩ := name_at (i := seed / 8) nel.1
  obtain ⟨b, mb, eb⟩ := name_at (i := seed / 2) ner.1
  have la := nml a ma
  have lb := nmr b mb
  refine ⟨_, rfl, p1, _, _, _, rfl, rfl, SqT.of a8, atI2, _, rfl, _, _, rfl, rfl, ⟨by decide, by decide⟩, _, rfl, p1, _, _, _, rfl, rfl, SqT.of a8, atI2, hp1, _, rfl, .inl (SqL.of (n58 _ _ a3)), _, _, rfl, rfl, hlen1, hp1, _, _, _, rfl, rfl, SqL.of (n58 _ _ a3), ea, ?_⟩
  refine ⟨_, rfl, p2, _, _, _, rfl, rfl, SqT.of b8, atI2, _, rfl, _, _, rfl, rfl, ⟨by decide, by decide⟩, _, rfl, p2, _, _, _, rfl, rfl, SqT.of b8, atI2, hp2, _, rfl, .inl (SqL.of (n58 _ _ b3)), _, _, rfl, rfl, hlen2, hp2, _, _, _, rfl, rfl, SqL.of (n58 _ _ b3), eb, ?_⟩
  refine ⟨_, rfl, p1, _, _, _, rfl, rfl, SqT.of a8, atI1, _, _, rfl, rfl, by (simp only [Str.length_append, l_open, l_close, l_blank, l_less, l_same, l_not, l_and, l_or, l_pick, l_cols, l_sort, l_first, l_both, l_pair, l_join, l_group, l_picks, l_cb, l_n, l_s, l_bn, l_bs, PySem.sizeLine_eq]; try omega), _, _, rfl, rfl, by (simp only [Str.length_append, l_open, l_close, l_blank, l_less, l_same, l_not, l_and, l_or, l_pick, l_cols, l_sort, l_first, l_both, l_pair, l_join, l_group, l_picks, l_cb, l_n, l_s, l_bn, l_bs, PySem.sizeLine_eq]; try omega), _, rfl, p2, _, _, _, rfl, rfl, SqT.of b8, atI1, _, _, rfl, rfl, by (simp only [Str.length_append, l_open, l_close, l_blank, l_less, l_same, l_not, l_and, l_or, l_pick, l_cols, l_sort, l_first, l_both, l_pair, l_join, l_group, l_picks, l_cb, l_n, l_s, l_bn, l_bs, PySem.sizeLine_eq]; try omega), _, _, rfl, rfl, by (simp only [Str.length_append, l_open, l_close, l_blank, l_less, l_same, l_not, l_and, l_or, l_pick, l_cols, l_sort, l_first, l_both, l_pair, l_join, l_group, l_picks, l_cb, l_n, l_s, l_bn, l_bs, PySem.sizeLine_eq]; try omega), ?_⟩
  refine ⟨_, rfl, p1, _, _, _, rfl, rfl, SqT.of a8, atI0, _, rfl, p2, _, _, _, rfl, rfl, SqT.of b8, atI0, le_line (by show 3 ≤ _; decide), fun pp hpp => ?_⟩
  refine alloc_rd (upd _ pp _) rfl hpp fun H9 n9 x9 => ?_
  have n59 := n58.trans n9
  have qa9 : QAt H9 (.pair ql qr) (.ref pp) := ⟨pp, qv1, qv2, rfl, x9, a2.same n59, b2.same n59⟩
  have hd9 := hd.same n9
  have lnp : (lineOf (.pair ql qr)).length ≤ (lineOf q).length + 310 := by simp only [lineOf]; (simp only [Str.length_append, l_open, l_close, l_blank, l_less, l_same, l_not, l_and, l_or, l_pick, l_cols, l_sort, l_first, l_both, l_pair, l_join, l_group, l_picks, l_cb, l_n, l_s, l_bn, l_bs, PySem.sizeLine_eq]; try omega)
  have edp : ds.map (·.2) = rowsOf th tr (.pair ql qr) := ed
  have lds : (rowsOf th tr (.pair ql qr)).length ≤ (rowsOf th tr q).length * (tr n).length := by show (pairs _ _).length ≤ _; rw [pairs_len]; exact rol
  have okp : okQ th (.pair ql qr) := ⟨dlr, okl, okr⟩
  have dpp : depth (.pair ql qr) ≤ max (depth q) 5 + 1 := by show max _ _ + 1 ≤ _; omega
  have unp : Un2 th tr q n (.pair ql qr) := ⟨okp, hdl, lds, by omega, by omega⟩
  have wds : ∀ r ∈ ds, r.2.length = (headsOf th ql ++ headsOf th qr).length := fun r m => rows_len TT okp r.2 (by rw [← edp]; exact List.mem_map.mpr ⟨_, m, rfl⟩)
  have ldn : ds.length ≤ 1000000 := by omega
  have hld : (refs ds).length = ds.length := List.length_map _
  have mah : a ∈ headsOf th ql ++ headsOf th qr := List.mem_append_left _ ma
  have mbh : b ∈ headsOf th ql ++ headsOf th qr := List.mem_append_right _ mb
  have s59 := s4.trans n59
  have asPair : ∀ (σ : St) {H10 : Hp}, Same H9 H10 → ∀ sp, H10 sp = none → Q (.ref sp) (upd H10 sp (.tup [.ref pp, .str (lineOf (.pair ql qr)), .ref hp, .ref wp])) := fun σ H10 s10 sp hsp => by
    have n11 := same_new hsp (.tup [.ref pp, .str (lineOf (.pair ql qr)), .ref hp, .ref wp])
    have s911 := s10.trans n11
    exact fin _ (.pair ql qr) _ (s59.trans s911) ⟨sp, _, hp, wp, ds, rfl, upd_same, qa9.same s911, s911 _ _ (n9 _ _ x8), hd9.same s911, edp⟩ unp
  refine ⟨_, rfl, _, _, rfl, rfl, (by show (0 : Int) < 4; decide), rfl, _, rfl, ?_⟩
  refine ite2 (fun hb => ?_) (fun hb => ?_)
  · exact ⟨_, rfl, _, rfl, _, rfl, _, rfl, le_line (by show 4 ≤ _; decide), fun sp hsp => asPair [] (Same.refl _) sp hsp⟩
  have ia := index_strs mah
  have ib := index_strs mbh
  have x9h := n9 _ _ x8
  refine ⟨_, rfl, .inl ⟨rfl, _, SqL.of x9h⟩, _, rfl, hp, _, _, (headsOf th ql ++ headsOf th qr).idxOf a, rfl, rfl, SqL.of x9h, rfl, flat_strs _, ia.1, ia.2, ?_⟩
  refine ⟨_, rfl, .inl ⟨rfl, _, SqL.of x9h⟩, _, rfl, hp, _, _, (headsOf th ql ++ headsOf th qr).idxOf b, rfl, rfl, SqL.of x9h, rfl, flat_strs _, ib.1, ib.2, ?_⟩
  refine ⟨_, rfl, wp, rfl, ⟨_, SqL.of hd9.1⟩, ?_⟩
  refine comp_list (xs := refs ds) (fun i ys H' => H' = H9 ∧ ys = refs ((ds.take i).filter fun r => decide (r.2.getD ((headsOf th ql ++ headsOf th qr).idxOf a) 0 = r.2.getD ((headsOf th ql ++ headsOf th qr).idxOf b) 0))) ⟨rfl, rfl⟩ ?_ ?_ ?_
  · rintro i ys H' hi ⟨rfl, rfl⟩
    refine ⟨SqL.of hd9.1, lt_line ?_⟩
    have := List.length_filter_le (fun r : Addr × List Int => decide (r.2.getD ((headsOf th ql ++ headsOf th qr).idxOf a) 0 = r.2.getD ((headsOf th ql ++ headsOf th qr).idxOf b) 0)) (ds.take i)
    rw [List.length_map]
    rw [List.length_take] at this
    omega
  · rintro i x ys H' hi ⟨rfl, rfl⟩
    have hir : i < ds.length := by
      have := (List.getElem?_eq_some_iff.mp hi).1
      rwa [hld] at this
    rw [at_row hir] at hi
    cases hi
    have hrow := (hd9.2 _ (List.getElem_mem hir)).2
    have wl := wds _ (List.getElem_mem hir)
    have ft := filter_take (fun r : Addr × List Int => decide (r.2.getD ((headsOf th ql ++ headsOf th qr).idxOf a) 0 = r.2.getD ((headsOf th ql ++ headsOf th qr).idxOf b) 0)) ds (List.getElem?_eq_getElem hir)
    refine ⟨_, rfl, _, rfl, ds[i].1, _, _, _, rfl, rfl, SqL.of hrow, atI_nat (int_at (idx_mem mah wl)), _, rfl, _, rfl, ds[i].1, _, _, _, rfl, rfl, SqL.of hrow, atI_nat (int_at (idx_mem mbh wl)), rfl, _, rfl, ?_⟩
    rw [dec_intV]
    refine ite2 (fun hc => ?_) (fun hc => ?_)
    · refine ⟨_, rfl, rfl, ?_⟩
      rw [ft, if_pos hc]
      simp [refs]
    · refine ⟨rfl, ?_⟩
      rw [ft, if_neg hc, List.append_nil]
  rintro ys H' ⟨rfl, rfl⟩ np hnp
  rw [hld, List.take_length]
  refine alloc_rd (upd _ np _) rfl hnp fun H10 n10 x10 => ?_
  have rc := rows_new hnp n10 x10 fun r m => (hd9.2 r (List.mem_filter.mp m).1).2
  have fe : (ds.filter fun r => decide (r.2.getD ((headsOf th ql ++ headsOf th qr).idxOf a) 0 = r.2.getD ((headsOf th ql ++ headsOf th qr).idxOf b) 0)).map (·.2) = rowsOf th tr (.join a b ql qr) := by
    show _ = List.filter _ (pairs _ _)
    rw [← ed, List.filter_map]
    rfl
  have lnf : (rowsOf th tr (.join a b ql qr)).length ≤ (rowsOf th tr q).length * (tr n).length := Nat.le_trans (List.length_filter_le _ _) lds
  generalize (ds.filter fun r => decide (r.2.getD ((headsOf th ql ++ headsOf th qr).idxOf a) 0 = r.2.getD ((headsOf th ql ++ headsOf th qr).idxOf b) 0)) = fs at x10 rc fe
  refine ⟨_, rfl, le_line (by show 0 ≤ _; decide), fun ep hep => ?_⟩
  refine alloc_rd (upd _ ep _) rfl hep fun H11 n11 x11 => ?_
  refine ⟨np, ep, _, rfl, rfl, SqL.of (n11 _ _ x10), SqL.of x11, _, rfl, _, ⟨_, rfl, _, _, rfl, rfl, (by show (0 : Int) < 5; decide), _, _, rfl, rfl, _, rfl, rfl, rfl⟩, ?_⟩
  have s911 := n10.trans n11
  refine ite2 (fun hb2 => ?_) (fun hb2 => ?_)
  · exact ⟨_, rfl, _, rfl, _, rfl, _, rfl, le_line (by show 4 ≤ _; decide), fun sp hsp => asPair [] s911 sp hsp⟩
  refine ⟨_, rfl, ?_⟩
  have a11 := s911 _ _ (n9 _ _ a8)
  have b11 := s911 _ _ (n9 _ _ b8)
  have n511 := n59.trans s911
  refine ⟨fun σ H12 => ∃ (qv : V) (q' : Qn), σ = [some v, some (.ref tp), some (.int seed), some (.ref p1), some (.ref p2), some (.ref hp), some (.ref np), o7, o8, some (.str a), some (.str b), some (.str (lineOf q')), some qv, some (.int (((headsOf th ql ++ headsOf th qr).idxOf a : Nat) : Int)), some (.int (((headsOf th ql ++ headsOf th qr).idxOf b : Nat) : Int)), some (.ref np)] ∧ Same H11 H12 ∧ QAt H12 q' qv ∧ headsOf th q' = headsOf th ql ++ headsOf th qr ∧ rowsOf th tr q' = rowsOf th tr (.join a b ql qr) ∧ Un2 th tr q n q', ?_, ?_⟩
  · refine ⟨_, rfl, _, _, rfl, rfl, (by show (0 : Int) < 4; decide), rfl, _, rfl, ?_⟩
    refine ite2 (fun hc => ?_) (fun hc => ?_)
    · refine ⟨_, rfl, _, _, rfl, rfl, by (simp only [Str.length_append, l_open, l_close, l_blank, l_less, l_same, l_not, l_and, l_or, l_pick, l_cols, l_sort, l_first, l_both, l_pair, l_join, l_group, l_picks, l_cb, l_n, l_s, l_bn, l_bs, PySem.sizeLine_eq]; try omega), _, _, rfl, rfl, by (simp only [Str.length_append, l_open, l_close, l_blank, l_less, l_same, l_not, l_and, l_or, l_pick, l_cols, l_sort, l_first, l_both, l_pair, l_join, l_group, l_picks, l_cb, l_n, l_s, l_bn, l_bs, PySem.sizeLine_eq]; try omega), _, rfl, _, _, rfl, rfl, by (simp only [Str.length_append, l_open, l_close, l_blank, l_less, l_same, l_not, l_and, l_or, l_pick, l_cols, l_sort, l_first, l_both, l_pair, l_join, l_group, l_picks, l_cb, l_n, l_s, l_bn, l_bs, PySem.sizeLine_eq]; try omega), _, _, rfl, rfl, by (simp only [Str.length_append, l_open, l_close, l_blank, l_less, l_same, l_not, l_and, l_or, l_pick, l_cols, l_sort, l_first, l_both, l_pair, l_join, l_group, l_picks, l_cb, l_n, l_s, l_bn, l_bs, PySem.sizeLine_eq]; try omega), _, rfl, p1, _, _, _, rfl, rfl, SqT.of a11, atI1, _, _, rfl, rfl, by (simp only [Str.length_append, l_open, l_close, l_blank, l_less, l_same, l_not, l_and, l_or, l_pick, l_cols, l_sort, l_first, l_both, l_pair, l_join, l_group, l_picks, l_cb, l_n, l_s, l_bn, l_bs, PySem.sizeLine_eq]; try omega), _, _, rfl, rfl, by (simp only [Str.length_append, l_open, l_close, l_blank, l_less, l_same, l_not, l_and, l_or, l_pick, l_cols, l_sort, l_first, l_both, l_pair, l_join, l_group, l_picks, l_cb, l_n, l_s, l_bn, l_bs, PySem.sizeLine_eq]; try omega), _, rfl, p2, _, _, _, rfl, rfl, SqT.of b11, atI1, _, _, rfl, rfl, by (simp only [Str.length_append, l_open, l_close, l_blank, l_less, l_same, l_not, l_and, l_or, l_pick, l_cols, l_sort, l_first, l_both, l_pair, l_join, l_group, l_picks, l_cb, l_n, l_s, l_bn, l_bs, PySem.sizeLine_eq]; try omega), _, _, rfl, rfl, by (simp only [Str.length_append, l_open, l_close, l_blank, l_less, l_same, l_not, l_and, l_or, l_pick, l_cols, l_sort, l_first, l_both, l_pair, l_join, l_group, l_picks, l_cb, l_n, l_s, l_bn, l_bs, PySem.sizeLine_eq]; try omega), ?_⟩
      refine ⟨_, rfl, _, rfl, _, rfl, p1, _, _, _, rfl, rfl, SqT.of a11, atI0, _, rfl, p2, _, _, _, rfl, rfl, SqT.of b11, atI0, le_line (by show 5 ≤ _; decide), fun jp hjp => ?_⟩
      refine alloc_rd (upd _ jp _) rfl hjp fun H12 n12 x12 => ?_
      have n512 := n511.trans n12
      refine ⟨_, .join a b ql qr, rfl, n12, ⟨jp, qv1, qv2, rfl, x12, a2.same n512, b2.same n512⟩, rfl, rfl, ⟨ma, mb, dlr, okl, okr⟩, hdl, lnf, ?_, ?_⟩
      · simp only [lineOf]; (simp only [Str.length_append, l_open, l_close, l_blank, l_less, l_same, l_not, l_and, l_or, l_pick, l_cols, l_sort, l_first, l_both, l_pair, l_join, l_group, l_picks, l_cb, l_n, l_s, l_bn, l_bs, PySem.sizeLine_eq]; try omega)
      · show max _ _ + 1 ≤ _; omega
    · refine ⟨_, rfl, _, _, rfl, rfl, (by show (0 : Int) < 4; decide), rfl, _, rfl, ?_⟩
      have evs : ∀ {x y : Str} (hxy : (x = b ∧ y = a) ∨ (x = a ∧ y = b)), rowsOf th tr (.pick (.same (.nm x) (.nm y)) (.pair ql qr)) = rowsOf th tr (.join a b ql qr) := fun {x y} hxy => by
        show List.filter _ (pairs _ _) = List.filter _ (pairs _ _)
        refine List.filter_congr fun z _ => ?_
        rcases hxy with ⟨rfl, rfl⟩ | ⟨rfl, rfl⟩
        · show decide (z.getD ((headsOf th ql ++ headsOf th qr).idxOf _) 0 = z.getD ((headsOf th ql ++ headsOf th qr).idxOf _) 0) = _
          exact decide_eq_decide.mpr eq_comm
        · rfl
      have mk : ∀ {x y : Str} (hxy : (x = b ∧ y = a) ∨ (x = a ∧ y = b)), Un2 th tr q n (.pick (.same (.nm x) (.nm y)) (.pair ql qr)) := fun {x y} hxy => by
        have mx : x ∈ headsOf th ql ++ headsOf th qr := by rcases hxy with ⟨rfl, rfl⟩ | ⟨rfl, rfl⟩ <;> assumption
        have my : y ∈ headsOf th ql ++ headsOf th qr := by rcases hxy with ⟨rfl, rfl⟩ | ⟨rfl, rfl⟩ <;> assumption
        have lx : x.length ≤ 10 := by rcases hxy with ⟨rfl, rfl⟩ | ⟨rfl, rfl⟩ <;> assumption
        have ly : y.length ≤ 10 := by rcases hxy with ⟨rfl, rfl⟩ | ⟨rfl, rfl⟩ <;> assumption
        refine ⟨⟨⟨mx, my⟩, by simp [Cond.size], okp⟩, hdl, by rw [evs hxy]; exact lnf, ?_, ?_⟩
        · simp only [lineOf, spell, ends, Side.txt]; simp only [lineOf] at lnp; (simp only [Str.length_append, l_open, l_close, l_blank, l_less, l_same, l_not, l_and, l_or, l_pick, l_cols, l_sort, l_first, l_both, l_pair, l_join, l_group, l_picks, l_cb, l_n, l_s, l_bn, l_bs, PySem.sizeLine_eq]; try omega)
        · show depth (.pair ql qr) + 1 ≤ _; omega
      have line : ∀ x y : Str, ("(pick (same " ++ x ++ " " ++ y ++ ") " ++ lineOf (.pair ql qr) ++ ")" : Str) = lineOf (.pick (.same (.nm x) (.nm y)) (.pair ql qr)) := fun x y => by
        have e : lineOf (.pick (.same (.nm x) (.nm y)) (.pair ql qr)) = ("(pick " : Str) ++ ("(" ++ "same" ++ " " ++ (x ++ " " ++ y) ++ ")") ++ " " ++ lineOf (.pair ql qr) ++ ")" := rfl
        rw [e]
        have e1 : ("(pick (same " : Str) = ("(pick " : Str) ++ ("(" ++ "same" ++ " ") := by decide +kernel
        have e2 : (") " : Str) = (")" : Str) ++ " " := by decide +kernel
        rw [e1, e2]
        simp only [Str.append_assoc]
      have lx12 : (lineOf (.pair ql qr)).length ≤ 4000310 := by omega
      refine ite2 (fun hc2 => ?_) (fun hc2 => ?_)
      · refine ⟨_, rfl, _, _, rfl, rfl, by (simp only [Str.length_append, l_open, l_close, l_blank, l_less, l_same, l_not, l_and, l_or, l_pick, l_cols, l_sort, l_first, l_both, l_pair, l_join, l_group, l_picks, l_cb, l_n, l_s, l_bn, l_bs, PySem.sizeLine_eq]; try omega), _, _, rfl, rfl, by (simp only [Str.length_append, l_open, l_close, l_blank, l_less, l_same, l_not, l_and, l_or, l_pick, l_cols, l_sort, l_first, l_both, l_pair, l_join, l_group, l_picks, l_cb, l_n, l_s, l_bn, l_bs, PySem.sizeLine_eq]; try omega), _, rfl, _, _, rfl, rfl, by (simp only [Str.length_append, l_open, l_close, l_blank, l_less, l_same, l_not, l_and, l_or, l_pick, l_cols, l_sort, l_first, l_both, l_pair, l_join, l_group, l_picks, l_cb, l_n, l_s, l_bn, l_bs, PySem.sizeLine_eq]; try omega), _, _, rfl, rfl, by (simp only [Str.length_append, l_open, l_close, l_blank, l_less, l_same, l_not, l_and, l_or, l_pick, l_cols, l_sort, l_first, l_both, l_pair, l_join, l_group, l_picks, l_cb, l_n, l_s, l_bn, l_bs, PySem.sizeLine_eq]; try omega), _, rfl, _, lineOf (.pair ql qr), rfl, rfl, by (simp only [Str.length_append, l_open, l_close, l_blank, l_less, l_same, l_not, l_and, l_or, l_pick, l_cols, l_sort, l_first, l_both, l_pair, l_join, l_group, l_picks, l_cb, l_n, l_s, l_bn, l_bs, PySem.sizeLine_eq]; try omega), _, _, rfl, rfl, by (simp only [Str.length_append, l_open, l_close, l_blank, l_less, l_same, l_not, l_and, l_or, l_pick, l_cols, l_sort, l_first, l_both, l_pair, l_join, l_group, l_picks, l_cb, l_n, l_s, l_bn, l_bs, PySem.sizeLine_eq]; try omega), ?_⟩
        refine ⟨_, rfl, _, rfl, le_line (by show 3 ≤ _; decide), fun cp hcp => ?_⟩
        refine alloc_rd (upd _ cp _) rfl hcp fun H12 n12 x12 => ?_
        refine ⟨_, rfl, le_line (by show 3 ≤ _; decide), fun jp hjp => ?_⟩
        refine alloc_rd (upd _ jp _) rfl hjp fun H13 n13 x13 => ?_
        refine ⟨_, .pick (.same (.nm b) (.nm a)) (.pair ql qr), by rw [← line]; rfl, n12.trans n13, ⟨jp, _, _, rfl, x13, ⟨cp, rfl, n13 _ _ x12⟩, qa9.same (s911.trans (n12.trans n13))⟩, rfl, evs (.inl ⟨rfl, rfl⟩), mk (.inl ⟨rfl, rfl⟩)⟩
      · refine ⟨_, rfl, _, _, rfl, rfl, by (simp only [Str.length_append, l_open, l_close, l_blank, l_less, l_same, l_not, l_and, l_or, l_pick, l_cols, l_sort, l_first, l_both, l_pair, l_join, l_group, l_picks, l_cb, l_n, l_s, l_bn, l_bs, PySem.sizeLine_eq]; try omega), _, _, rfl, rfl, by (simp only [Str.length_append, l_open, l_close, l_blank, l_less, l_same, l_not, l_and, l_or, l_pick, l_cols, l_sort, l_first, l_both, l_pair, l_join, l_group, l_picks, l_cb, l_n, l_s, l_bn, l_bs, PySem.sizeLine_eq]; try omega), _, rfl, _, _, rfl, rfl, by (simp only [Str.length_append, l_open, l_close, l_blank, l_less, l_same, l_not, l_and, l_or, l_pick, l_cols, l_sort, l_first, l_both, l_pair, l_join, l_group, l_picks, l_cb, l_n, l_s, l_bn, l_bs, PySem.sizeLine_eq]; try omega), _, _, rfl, rfl, by (simp only [Str.length_append, l_open, l_close, l_blank, l_less, l_same, l_not, l_and, l_or, l_pick, l_cols, l_sort, l_first, l_both, l_pair, l_join, l_group, l_picks, l_cb, l_n, l_s, l_bn, l_bs, PySem.sizeLine_eq]; try omega), _, rfl, _, lineOf (.pair ql qr), rfl, rfl, by (simp only [Str.length_append, l_open, l_close, l_blank, l_less, l_same, l_not, l_and, l_or, l_pick, l_cols, l_sort, l_first, l_both, l_pair, l_join, l_group, l_picks, l_cb, l_n, l_s, l_bn, l_bs, PySem.sizeLine_eq]; try omega), _, _, rfl, rfl, by (simp only [Str.length_append, l_open, l_close, l_blank, l_less, l_same, l_not, l_and, l_or, l_pick, l_cols, l_sort, l_first, l_both, l_pair, l_join, l_group, l_picks, l_cb, l_n, l_s, l_bn, l_bs, PySem.sizeLine_eq]; try omega), ?_⟩
        refine ⟨_, rfl, _, rfl, le_line (by show 3 ≤ _; decide), fun cp hcp => ?_⟩
        refine alloc_rd (upd _ cp _) rfl hcp fun H12 n12 x12 => ?_
        refine ⟨_, rfl, le_line (by show 3 ≤ _; decide), fun jp hjp => ?_⟩
        refine alloc_rd (upd _ jp _) rfl hjp fun H13 n13 x13 => ?_
        refine ⟨_, .pick (.same (.nm a) (.nm b)) (.pair ql qr), by rw [← line]; rfl, n12.trans n13, ⟨jp, _, _, rfl, x13, ⟨cp, rfl, n13 _ _ x12⟩, qa9.same (s911.trans (n12.trans n13))⟩, rfl, evs (.inr ⟨rfl, rfl⟩), mk (.inr ⟨rfl, rfl⟩)⟩
  rintro σ H12 ⟨qv, q', rfl, s12, qa12, eh, er, un12⟩
  refine ⟨_, rfl, _, rfl, _, rfl, _, rfl, le_line (by show 4 ≤ _; decide), fun sp hsp => ?_⟩
  refine alloc_rd (upd _ sp _) rfl hsp fun H13 n13 x13 => ?_
  have s913 := s911.trans (s12.trans n13)
  refine fin _ q' _ (s59.trans s913) ⟨sp, qv, hp, np, fs, rfl, x13, qa12.same n13, by rw [eh]; exact s913 _ _ x9h, (rc.same n11).same (s12.trans n13), by rw [fe, er]⟩ un12
theorem mod5_1 (x : Int) : 0 ≤ 2 + x % 5 ∧ 2 ≤ (2 + x % 5).toNat ∧ (2 + x % 5).toNat ≤ 12 := by omega
def thOf (hs : List Str) (n : Str) : List Str := if n = "tuvtuvtuvw" then wHeads else if n = "tuvtuvtuvx" then (["e"] : List Str) else hs
def trOf (r0 r1 r2 r3 : List (List Int)) (n : Str) : List (List Int) := if n = "t" then r0 else if n = "tuvtuvtuvw" then r1 else if n = "tuvtuvtuvx" then r2 else r3
theorem tabs_ok {m : Nat} {r0 r1 r2 r3 : List (List Int)} (m1 : 2 ≤ m) (m2 : m ≤ 12) (l0 : ∀ r ∈ r0, r.length = (letters.take m).length) (l1 : ∀ r ∈ r1, r.length = 2) (l2 : ∀ r ∈ r2, r.length = 1) (l3 : ∀ r ∈ r3, r.length = (letters.take m).length) (c0 : r0.length ≤ 60) (c1 : r1.length ≤ 10) (c2 : r2.length ≤ 10) (c3 : r3.length = 3) :
    TabOk (thOf (letters.take m)) (trOf r0 r1 r2 r3) where
  t := ⟨m, m1, m2, by unfold thOf; rw [if_neg (by decide +kernel), if_neg (by decide +kernel)]⟩
  w := by unfold thOf; rw [if_pos rfl]
  x := by unfold thOf; rw [if_neg (by decide +kernel), if_pos rfl]
  z := by unfold thOf; rw [if_neg (by decide +kernel), if_neg (by decide +kernel), if_neg (by decide +kernel), if_neg (by decide +kernel)]
  rl := fun n hn => by
    simp only [tabs, List.mem_cons, List.not_mem_nil, or_false] at hn
    rcases hn with rfl | rfl | rfl | rfl
    · unfold thOf trOf; rw [if_pos rfl, if_neg (by decide +kernel), if_neg (by decide +kernel)]; exact l0
    · unfold thOf trOf; rw [if_neg (by decide +kernel), if_pos rfl, if_pos rfl]; exact l1
    · unfold thOf trOf; rw [if_neg (by decide +kernel), if_neg (by decide +kernel), if_pos rfl, if_neg (by decide +kernel), if_pos rfl]; exact l2
    · unfold thOf trOf; rw [if_neg (by decide +kernel), if_neg (by decide +kernel), if_neg (by decide +kernel), if_neg (by decide +kernel), if_neg (by decide +kernel)]; exact l3
  ct := by unfold trOf; rw [if_pos rfl]; exact c0
  cw := by unfold trOf; rw [if_neg (by decide +kernel), if_pos rfl]; exact c1
  cx := by unfold trOf; rw [if_neg (by decide +kernel), if_neg (by decide +kernel), if_pos rfl]; exact c2
  cz := by unfold trOf; rw [if_neg (by decide +kernel), if_neg (by decide +kernel), if_neg (by decide +kernel)]; exact c3
def FourAt (th : Str → List Str) (tr : Str → List (List Int)) (H : Hp) (p : Addr) : Prop := ∃ v0 v1 v2 v3, H p = some (.lst [v0, v1, v2, v3]) ∧ TabAt th tr H v0 "t" ∧ TabAt th tr H v1 "tuvtuvtuvw" ∧ TabAt th tr H v2 "tuvtuvtuvx" ∧ TabAt th tr H v3 "tuvz"
theorem FourAt.same {th : Str → List Str} {tr : Str → List (List Int)} {H H' : Hp} {p : Addr} (h : FourAt th tr H p) (e : Same H H') : FourAt th tr H' p := by
  obtain ⟨v0, v1, v2, v3, h0, a, b, c, d⟩ := h
  exact ⟨v0, v1, v2, v3, e _ _ h0, a.same e, b.same e, c.same e, d.same e⟩
def spStocked (K : PySem.W.Frag) : Sp := fun vs H Q _ => ∃ (cp : Addr) (ns : List Int) (more : Int), vs = [.ref cp, .int more] ∧ SqL K H cp (ns.map V.int) ∧ ns.length ≤ 18 ∧ 0 ≤ more ∧ more ≤ 48 ∧
  ∀ (p : Addr) (th : Str → List Str) (tr : Str → List (List Int)) (H' : Hp), Same H H' → TabOk th tr → FourAt th tr H' p → Q (.ref p) H'
theorem els_rd {t : TT} {σ : St} {H : Hp} {Q : Bool → Hp → Prop} (els : Q false H) (h : Q false H → t σ H Q) : t σ H Q := h els
def twM (t : Nat) : Nat := if t = 0 then 1 else if t = 1 then 2 else 4
structure Gr (th : Str → List Str) (tr : Str → List (List Int)) (i used twice : Nat) (q : Qn) : Prop where
  ok : okQ th q
  rows : (rowsOf th tr q).length ≤ 60
  line : (lineOf q).length ≤ 2400 * (i + 1) * twM twice
  heads : ∀ x ∈ headsOf th q, x ∈ pool i used
  dp : depth q ≤ 5 + 2 * i
theorem mem_take_le {α : Type} {l : List α} {x : α} {i j : Nat} (h : x ∈ l.take i) (hij : i ≤ j) : x ∈ l.take j := by
  have : l.take i = (l.take j).take i := by rw [List.take_take, Nat.min_eq_left hij]
  rw [this] at h
  exact List.mem_of_mem_take h
theorem pool_mono {x : Str} {i j u v : Nat} (h : x ∈ pool i u) (hij : i ≤ j) (huv : u ≤ v) : x ∈ pool j v := by
  unfold pool at h ⊢
  simp only [List.mem_append, List.mem_map] at h ⊢
  rcases h with (((h | h) | h) | ⟨s, h, e⟩) | ⟨s, h, e⟩
  · exact .inl (.inl (.inl (.inl h)))
  · refine .inl (.inl (.inl (.inr ?_)))
    split at h
    · rw [if_pos (by omega)]; exact h
    · cases h
  · refine .inl (.inl (.inr ?_))
    split at h
    · rw [if_pos (by omega)]; exact h
    · cases h
  · exact .inl (.inr ⟨s, mem_take_le h hij, e⟩)
  · exact .inr ⟨s, mem_take_le h hij, e⟩
theorem pool_w : ∀ x ∈ wHeads, x ∉ pool 26 1 := by decide +kernel
theorem pool_e : ∀ x ∈ (["e"] : List Str), x ∉ pool 26 2 := by decide +kernel
theorem pool_sign : ∀ i : Fin 26, (("n" : Str) ++ signs.getD i.1 "" : Str) ∉ pool i.1 3 ∧ (("s" : Str) ++ signs.getD i.1 "" : Str) ∉ pool i.1 3 := by decide +kernel
theorem pool_len : (pool 26 3).length ≤ 100 := by decide +kernel
theorem wIn : ∀ x ∈ wHeads, x ∈ pool 0 2 := by decide +kernel
theorem eIn : ∀ x ∈ (["e"] : List Str), x ∈ pool 0 3 := by decide +kernel
theorem lIn : ∀ x ∈ letters, x ∈ pool 0 1 := by decide +kernel
def alph : Str := "abcdefghijklmnopqrstuvwxyz"
theorem alph_at : ∀ i : Fin 26, (alph.cps.toList[i.1]?).map (fun c => (⟨#[c]⟩ : Str)) = some (signs.getD i.1 "") := by decide +kernel
theorem alph_len : alph.length ≤ sizeLine := le_line (by decide +kernel)
theorem sign_at {i : Nat} (h : i < 26) : ∃ c, atI alph.cps.toList (0 + (i : Int)) = some c ∧ (⟨#[c]⟩ : Str) = signs.getD i "" := by
  have := alph_at ⟨i, h⟩
  cases e : alph.cps.toList[i]? with
  | none => rw [e] at this; cases this
  | some c =>
    rw [e] at this
    refine ⟨c, ?_, Option.some.inj this⟩
    rw [Int.zero_add]
    exact atI_nat e
theorem signs_mem {i : Nat} (h : i < 26) : signs.getD i "" ∈ signs := by
  rw [List.getD_eq_getElem?_getD, List.getElem?_eq_getElem (by show i < 26; exact h)]
  exact List.getElem_mem _
theorem sign_take {i : Nat} (h : i < 26) : signs.getD i "" ∈ signs.take (i + 1) := by
  have hl : i < signs.length := h
  rw [List.getD_eq_getElem?_getD, List.getElem?_eq_getElem hl, List.take_add_one, List.getElem?_eq_getElem hl]
  exact List.mem_append_right _ (List.mem_singleton.mpr rfl)
section
variable {th : Str → List Str} {tr : Str → List (List Int)} {i used twice : Nat} {q : Qn}
theorem twM_pos (t : Nat) : 1 ≤ twM t ∧ twM t ≤ 4 := by unfold twM; split <;> (try split) <;> omega
theorem grow_line {a b i m : Nat} (h : a ≤ 2400 * (i + 1) * m) (hm : 1 ≤ m) (hb : b ≤ a + 2400) : b ≤ 2400 * (i + 1 + 1) * m := by
  have : 2400 * (i + 1 + 1) * m = 2400 * (i + 1) * m + 2400 * m := by rw [Nat.mul_add 2400 (i + 1) 1, Nat.add_mul, Nat.mul_one]
  omega
theorem Gr.big (g : Gr th tr i used twice q) (hi : i ≤ 24) : (lineOf q).length ≤ 240000 := by
  have h := g.line
  have m := (twM_pos twice).2
  have : 2400 * (i + 1) * twM twice ≤ 2400 * 25 * 4 := Nat.mul_le_mul (Nat.mul_le_mul_left _ (by omega)) m
  omega
theorem Gr.wide (T : TabOk th tr) (g : Gr th tr i used twice q) (hi : i ≤ 26) (hu : used ≤ 3) : (headsOf th q).length ≤ 100 :=
  Nat.le_trans (nodup_len (heads_ok T g.ok).2 fun x hx => pool_mono (g.heads x hx) hi hu) pool_len
theorem Gr.pick (T : TabOk th tr) (g : Gr th tr i used twice q) {c : Cond} (sm : csmall (headsOf th q) c) (sz : c.size ≤ 6) : Gr th tr (i + 1) used twice (.pick c q) where
  ok := ⟨sm, sz, g.ok⟩
  rows := Nat.le_trans (List.length_filter_le _ _) g.rows
  line := grow_line g.line (twM_pos _).1 (by have := pick_len (name_len T g.ok) sm sz; omega)
  heads := fun x hx => pool_mono (g.heads x hx) (by omega) (Nat.le_refl _)
  dp := by have := g.dp; show depth q + 1 ≤ _; omega
theorem Gr.cols (T : TabOk th tr) (g : Gr th tr i used twice q) (hi : i ≤ 24) (hu : used ≤ 3) {ns : List Str} (ne : ns ≠ []) (nd : ns.Nodup) (sub : ∀ n ∈ ns, n ∈ headsOf th q) : Gr th tr (i + 1) used twice (.cols ns q) where
  ok := ⟨ne, nd, sub, g.ok⟩
  rows := by show (List.map _ _).length ≤ _; rw [List.length_map]; exact g.rows
  line := grow_line g.line (twM_pos _).1 (by
    have jl := join_len fun n hn => name_len T g.ok n (sub n hn)
    have wl := g.wide T (by omega) hu
    have nl := nodup_len nd sub
    simp only [lineOf]
    (simp only [Str.length_append, l_open, l_close, l_blank, l_less, l_same, l_not, l_and, l_or, l_pick, l_cols, l_sort, l_first, l_both, l_pair, l_join, l_group, l_picks, l_cb, l_n, l_s, l_bn, l_bs, PySem.sizeLine_eq]; try omega))
  heads := fun x hx => pool_mono (g.heads x (sub x hx)) (by omega) (Nat.le_refl _)
  dp := by have := g.dp; show depth q + 1 ≤ _; omega
theorem Gr.sort (T : TabOk th tr) (g : Gr th tr i used twice q) {n : Str} (m : n ∈ headsOf th q) : Gr th tr (i + 1) used twice (.sort n q) where
  ok := ⟨m, g.ok⟩
  rows := by show (sortR _ _).length ≤ _; rw [sortR_len]; exact g.rows
  line := grow_line g.line (twM_pos _).1 (by
    have := name_len T g.ok n m
    simp only [lineOf]
    (simp only [Str.length_append, l_open, l_close, l_blank, l_less, l_same, l_not, l_and, l_or, l_pick, l_cols, l_sort, l_first, l_both, l_pair, l_join, l_group, l_picks, l_cb, l_n, l_s, l_bn, l_bs, PySem.sizeLine_eq]; try omega))
  heads := fun x hx => pool_mono (g.heads x hx) (by omega) (Nat.le_refl _)
  dp := by have := g.dp; show depth q + 1 ≤ _; omega
theorem Gr.first (g : Gr th tr i used twice q) {n : Int} (m : n ∈ manys) : Gr th tr (i + 1) used twice (.first n q) where
  ok := ⟨m, g.ok⟩
  rows := by show (List.take _ _).length ≤ _; rw [List.length_take]; have := g.rows; omega
  line := grow_line g.line (twM_pos _).1 (by
    have := (many_len n m).1
    simp only [lineOf]
    (simp only [Str.length_append, l_open, l_close, l_blank, l_less, l_same, l_not, l_and, l_or, l_pick, l_cols, l_sort, l_first, l_both, l_pair, l_join, l_group, l_picks, l_cb, l_n, l_s, l_bn, l_bs, PySem.sizeLine_eq]; try omega))
  heads := fun x hx => pool_mono (g.heads x hx) (by omega) (Nat.le_refl _)
  dp := by have := g.dp; show depth q + 1 ≤ _; omega
theorem Gr.firsts (g : Gr th tr i used twice q) {n n' : Int} (m : n ∈ manys) (m' : n' ∈ manys) : Gr th tr (i + 1) used twice (.first n' (.first n q)) where
  ok := ⟨m', m, g.ok⟩
  rows := by show (List.take _ (List.take _ _)).length ≤ _; rw [List.length_take, List.length_take]; have := g.rows; omega
  line := grow_line g.line (twM_pos _).1 (by
    have := (many_len n m).1
    have := (many_len n' m').1
    simp only [lineOf]
    (simp only [Str.length_append, l_open, l_close, l_blank, l_less, l_same, l_not, l_and, l_or, l_pick, l_cols, l_sort, l_first, l_both, l_pair, l_join, l_group, l_picks, l_cb, l_n, l_s, l_bn, l_bs, PySem.sizeLine_eq]; try omega))
  heads := fun x hx => pool_mono (g.heads x hx) (by omega) (Nat.le_refl _)
  dp := by have := g.dp; show depth q + 1 + 1 ≤ _; omega
theorem Gr.group (T : TabOk th tr) (g : Gr th tr i used twice q) (hi : i < 26) (hu : used ≤ 3) {a b : Str} (ma : a ∈ headsOf th q) (mb : b ∈ headsOf th q) : Gr th tr (i + 1) used twice (.group a b (("n" : Str) ++ signs.getD i "") (("s" : Str) ++ signs.getD i "") q) where
  ok := by
    have ps := pool_sign ⟨i, hi⟩
    have pa : a ∈ pool i 3 := pool_mono (g.heads a ma) (Nat.le_refl _) hu
    exact ⟨ma, mb, ⟨_, signs_mem hi, rfl, rfl⟩, fun z => ps.1 (z ▸ pa), fun z => ps.2 (z ▸ pa), g.ok⟩
  rows := by
    show ((keysR _ _).map _).length ≤ _
    rw [List.length_map]
    exact Nat.le_trans (keysR_len _) g.rows
  line := grow_line g.line (twM_pos _).1 (by
    have := name_len T g.ok a ma
    have := name_len T g.ok b mb
    have := sign_len _ (signs_mem hi)
    simp only [lineOf]
    (simp only [Str.length_append, l_open, l_close, l_blank, l_less, l_same, l_not, l_and, l_or, l_pick, l_cols, l_sort, l_first, l_both, l_pair, l_join, l_group, l_picks, l_cb, l_n, l_s, l_bn, l_bs, PySem.sizeLine_eq]; try omega))
  heads := fun x hx => by
    have hx' : x ∈ [a, (("n" : Str) ++ signs.getD i "" : Str), (("s" : Str) ++ signs.getD i "" : Str)] := hx
    simp only [List.mem_cons, List.not_mem_nil, or_false] at hx'
    rcases hx' with rfl | rfl | rfl
    · exact pool_mono (g.heads _ ma) (by omega) (Nat.le_refl _)
    · unfold pool
      exact List.mem_append_left _ (List.mem_append_right _ (List.mem_map.mpr ⟨_, sign_take hi, rfl⟩))
    · unfold pool
      exact List.mem_append_right _ (List.mem_map.mpr ⟨_, sign_take hi, rfl⟩)
  dp := by have := g.dp; show depth q + 1 ≤ _; omega
theorem both_line {a b c i m m' : Nat} (h1 : a ≤ 2400 * (i + 1) * m) (hb : b ≤ a + 1000) (hc : c ≤ a + b + 100) (hm : 1 ≤ m) (h2 : m' = 2 * m) : c ≤ 2400 * (i + 1 + 1) * m' := by
  have e : 2400 * (i + 1 + 1) * m' = 2 * (2400 * (i + 1) * m) + 2 * (2400 * m) := by
    rw [h2, Nat.mul_add 2400 (i + 1) 1, Nat.add_mul, Nat.mul_one, Nat.mul_left_comm (2400 * (i + 1)) 2 m, Nat.mul_left_comm 2400 2 m]
  omega
theorem Gr.both (T : TabOk th tr) (g : Gr th tr i used twice q) (ht : twice < 2) {r q' : Qn} (okr : okQ th r) (eh : headsOf th r = headsOf th q) (lr : (lineOf r).length ≤ (lineOf q).length + 1000) (rr : (rowsOf th tr q).length + (rowsOf th tr r).length ≤ 60) (dr : depth r ≤ depth q + 1) (e : q' = .both q r ∨ q' = .both r q) : Gr th tr (i + 1) used (twice + 1) q' := by
  have hm : twM (twice + 1) = 2 * twM twice := by
    have : twice = 0 ∨ twice = 1 := by omega
    rcases this with rfl | rfl <;> rfl
  have gd := g.dp
  rcases e with rfl | rfl
  · exact ⟨⟨eh.symm, g.ok, okr⟩, by show (rowsOf th tr q ++ rowsOf th tr r).length ≤ _; rw [List.length_append]; exact rr, both_line g.line lr (by simp only [lineOf]; (simp only [Str.length_append, l_open, l_close, l_blank, l_less, l_same, l_not, l_and, l_or, l_pick, l_cols, l_sort, l_first, l_both, l_pair, l_join, l_group, l_picks, l_cb, l_n, l_s, l_bn, l_bs, PySem.sizeLine_eq]; try omega)) (twM_pos _).1 hm, fun x hx => pool_mono (g.heads x hx) (by omega) (Nat.le_refl _), by show max _ _ + 1 ≤ _; omega⟩
  · exact ⟨⟨eh, okr, g.ok⟩, by show (rowsOf th tr r ++ rowsOf th tr q).length ≤ _; rw [List.length_append, Nat.add_comm]; exact rr, both_line g.line lr (by simp only [lineOf]; (simp only [Str.length_append, l_open, l_close, l_blank, l_less, l_same, l_not, l_and, l_or, l_pick, l_cols, l_sort, l_first, l_both, l_pair, l_join, l_group, l_picks, l_cb, l_n, l_s, l_bn, l_bs, PySem.sizeLine_eq]; try omega)) (twM_pos _).1 hm, fun x hx => pool_mono (g.heads x (by rw [← eh]; exact hx)) (by omega) (Nat.le_refl _), by show max _ _ + 1 ≤ _; omega⟩
theorem Gr.unite (g : Gr th tr i used twice q) {n : Str} {q' : Qn} (u : Un2 th tr q n q') (hn : ∀ x ∈ th n, x ∈ pool 0 (used + 1)) (hl : (rowsOf th tr q).length * (tr n).length ≤ 30) : Gr th tr (i + 1) (used + 1) twice q' where
  ok := u.ok
  rows := Nat.le_trans u.ln (by omega)
  line := grow_line g.line (twM_pos _).1 (by have := u.li; omega)
  heads := fun x hx => by
    have h1 : ∀ x ∈ headsOf th q, x ∈ pool (i + 1) (used + 1) := fun x hx => pool_mono (g.heads x hx) (by omega) (by omega)
    have h2 : ∀ x ∈ th n, x ∈ pool (i + 1) (used + 1) := fun x hx => pool_mono (hn x hx) (by omega) (Nat.le_refl _)
    rcases u.hd with e | e
    · rw [e] at hx
      exact (List.mem_append.mp hx).elim (h1 x) (h2 x)
    · rw [e] at hx
      exact (List.mem_append.mp hx).elim (h2 x) (h1 x)
  dp := by have := u.dp; have := g.dp; omega
end
def spGrown (K : PySem.W.Frag) : Sp := fun vs H Q _ => ∃ (cp tp : Addr) (ns : List Int) (th : Str → List Str) (tr : Str → List (List Int)), vs = [.ref cp, .ref tp] ∧ SqL K H cp (ns.map V.int) ∧ ns.length ≤ 24 ∧ TabOk th tr ∧ FourAt th tr H tp ∧
  ∀ (v' : V) (q : Qn) (used twice : Nat) (H' : Hp), Same H H' → StAt th tr H' v' q → Gr th tr ns.length used twice q → used ≤ 3 → twice ≤ 2 → Q v' H'
theorem sc__law_grown : FnScope ["_law_cells", "_law_tables", "_law_state", "_law_used", "_law_twice", "_law_k", "_law_seed", "_law_turn"] ["_law_cells", "_law_tables"] (defScope s__law_grown) := ⟨rfl, rfl, rfl, by decide +kernel, rfl, by decide +kernel, by decide +kernel⟩
set_option maxHeartbeats 1600000 in
theorem ok__law_grown (F : Fun K "_law_grown" "_law_grown" s__law_grown f fd) (T : Txt K mg) (C_law_picked : Kn P w K mg base 8 "_law_picked" ["_law_state", "_law_seed"] (spPicked K)) (C_law_columns : Kn P w K mg base 1 "_law_columns" ["_law_state", "_law_seed"] (spColumns K)) (C_law_united : Kn P w K mg base 2 "_law_united" ["_law_state", "_law_table", "_law_seed"] (spUnited K))
    (C_law_beside : Kn P w K mg base 1 "_law_beside" ["_law_state", "_law_table", "_law_seed"] (spBeside K)) (C_law_doubled : Kn P w K mg base 9 "_law_doubled" ["_law_state", "_law_seed"] (spDoubled K)) (C_law_headed : Kn P w K mg base 1 "_law_headed" ["_law_state", "_law_seed"] (spHeaded K)) (C_law_counted : Kn P w K mg base 1 "_law_counted" ["_law_state", "_law_seed", "_law_sign"] (spCounted K)) (C_law_sorted : Kn P w K mg base 1 "_law_sorted" ["_law_state", "_law_seed"] (spSorted K)) :
    FnOk P w K mg base CX0 10 f fd ["_law_cells", "_law_tables"] (spGrown K) := by
  refine F.ok sc__law_grown (fun vs H Q E h => ?_) (fun cdv A outer s H vs Q E hr h => ?_)
  · obtain ⟨cp, tp, ns, th, tr, rfl, _⟩ := h
    rfl
  obtain ⟨cp, tp, ns, th, tr, rfl, hS, hn, TT, h4, fin⟩ := h
  have hu := hu_of hr
  have hln : (ns.map V.int).length = ns.length := List.length_map _
  refine ⟨_, (pss_cons (ps_set (i := 2) sc__law_grown.nd rfl (Or.inl rfl) (pe_tup (pa_conT (pe_tup (pa_conC pe_str (pa_conC pe_str pa_nil))) (pa_conC pe_str (pa_conS (pe_ix ix_tup (pe_ix ix_list (pv 1) pe_int (fun _ _ => rfl)) pe_int (fun _ _ => rfl)) (pa_conS (pe_ix ix_tup (pe_ix ix_list (pv 1) pe_int (fun _ _ => rfl)) pe_int (fun _ _ => rfl)) pa_nil))))))
    (pss_cons (ps_set (i := 3) sc__law_grown.nd rfl (Or.inl rfl) pe_int)
    (pss_cons (ps_set (i := 4) sc__law_grown.nd rfl (Or.inl rfl) pe_int)
    (pss_cons (ps_for PassesOwn.never rfl (pi_range1 rfl T.range (pa_conK (pe_callB call_len_seq rfl T.len PySem.boot_len (pa_conN (pv 0) pa_nil)) pa_nil)) (pg_name (i := 5) sc__law_grown.nd rfl (Or.inl rfl))
      (pss_cons (ps_set (i := 6) sc__law_grown.nd rfl (Or.inl rfl) (pe_op op_add (pe_op op_fdiv (pe_ix ix_list (pv 0) (pv 5) (fun _ _ => rfl)) pe_int) (pv 5)))
      (pss_cons (ps_set (i := 7) sc__law_grown.nd rfl (Or.inl rfl) (pe_op op_mod (pe_op op_add (pe_ix ix_list (pv 0) (pv 5) (fun _ _ => rfl)) (pe_op op_mul pe_int (pv 5))) pe_int))
      (pss_one (ps_if (pt_cmpR op_lt (pv 7) pe_int (nomark _))
        (pss_one (ps_set (i := 2) sc__law_grown.nd rfl (Or.inl rfl) (pe_callF C_law_picked (hr.mono (by first | decide | omega)) rfl (pa_conN (pv 2) (pa_conN (pv 6) pa_nil)))))
        (pss_one (ps_if (pt_cmpR op_eq (pv 7) pe_int (nomark _))
          (pss_one (ps_set (i := 2) sc__law_grown.nd rfl (Or.inl rfl) (pe_callF C_law_columns (hr.mono (by first | decide | omega)) rfl (pa_conN (pv 2) (pa_conN (pv 6) pa_nil)))))
          (pss_one (ps_if (PW.pt (pw_and (pt_cmpR op_eq (pv 7) pe_int (nomark _)) (pw_and (pt_cmpR op_lt (pv 3) pe_int (nomark _)) (pw_and1 (pt_cmpR op_le (pe_op op_mul (pe_callB call_len_seq rfl T.len PySem.boot_len (pa_conS (pe_ix ix_tup (pv 2) pe_int (fun _ _ => rfl)) pa_nil)) (pe_callB call_len_seq rfl T.len PySem.boot_len (pa_conS (pe_ix ix_tup (pe_ix ix_list (pv 1) (pv 3) (fun _ _ => rfl)) pe_int (fun _ _ => rfl)) pa_nil))) pe_int (nomark _))))))
            (pss_cons (ps_set (i := 2) sc__law_grown.nd rfl (Or.inl rfl) (pe_callF C_law_united (hr.mono (by first | decide | omega)) rfl (pa_conN (pv 2) (pa_conS (pe_ix ix_list (pv 1) (pv 3) (fun _ _ => rfl)) (pa_conN (pv 6) pa_nil)))))
            (pss_one (ps_set (i := 3) sc__law_grown.nd rfl (Or.inl rfl) (pe_op op_add (pv 3) pe_int))))
            (pss_one (ps_if (PW.pt (pw_and (pt_cmpR op_eq (pv 7) pe_int (nomark _)) (pw_and (pt_cmpR op_lt (pv 4) pe_int (nomark _)) (pw_and1 (pt_cmpR op_le (pe_callB call_len_seq rfl T.len PySem.boot_len (pa_conS (pe_ix ix_tup (pv 2) pe_int (fun _ _ => rfl)) pa_nil)) (pe_op op_sub pe_int (pe_op op_mul pe_int (pv 4))) (nomark _))))))
              (pss_cons (ps_if (pt_andP (pt_cmpR (op_eqFlat hu) (pe_ix ix_tup (pv 2) pe_int (fun _ _ => rfl)) (pe_ix ix_tup (pe_ix ix_list (pv 1) pe_int (fun _ _ => rfl)) pe_int (fun _ _ => rfl)) (nomark _)) (pt_cmpR op_eq (pe_op op_mod (pv 6) pe_int) pe_int (nomark _)))
                (pss_one (ps_set (i := 2) sc__law_grown.nd rfl (Or.inl rfl) (pe_callF C_law_beside (hr.mono (by first | decide | omega)) rfl (pa_conN (pv 2) (pa_conS (pe_ix ix_list (pv 1) pe_int (fun _ _ => rfl)) (pa_conN (pv 6) pa_nil))))))
                (pss_one (ps_set (i := 2) sc__law_grown.nd rfl (Or.inl rfl) (pe_callF C_law_doubled (hr.mono (by first | decide | omega)) rfl (pa_conN (pv 2) (pa_conN (pv 6) pa_nil))))))
              (pss_one (ps_set (i := 4) sc__law_grown.nd rfl (Or.inl rfl) (pe_op op_add (pv 4) pe_int))))
              (pss_one (ps_if (pt_cmpR op_eq (pv 7) pe_int (nomark _))
                (pss_one (ps_set (i := 2) sc__law_grown.nd rfl (Or.inl rfl) (pe_callF C_law_headed (hr.mono (by first | decide | omega)) rfl (pa_conN (pv 2) (pa_conN (pv 6) pa_nil)))))
                (pss_one (ps_if (pt_cmpR op_eq (pv 7) pe_int (nomark _))
                  (pss_one (ps_set (i := 2) sc__law_grown.nd rfl (Or.inl rfl) (pe_callF C_law_counted (hr.mono (by first | decide | omega)) rfl (pa_conN (pv 2) (pa_conN (pv 6) (pa_conS (pe_ix ix_str pe_str (pv 5) (fun _ _ => rfl)) pa_nil))))))
                  (pss_one (ps_set (i := 2) sc__law_grown.nd rfl (Or.inl rfl) (pe_callF C_law_sorted (hr.mono (by first | decide | omega)) rfl (pa_conN (pv 2) (pa_conN (pv 6) pa_nil))))))))))))))))))))
    (pss_one (ps_ret (pv 2))))))), ?_⟩
  obtain ⟨v0, v1, v2, v3, f0, t0, t1, t2, t3⟩ := id h4
  obtain ⟨p0, hp0, rp0, rs0, rfl, a1, a3, a4, a5⟩ := t0
  refine ⟨le_line (by show 2 ≤ _; decide), fun qp hqp => ?_⟩
  refine alloc_rd (upd _ qp _) rfl hqp fun H1 n1 x1 => ?_
  refine ⟨_, rfl, tp, _, _, _, rfl, rfl, SqL.of (n1 _ _ f0), atI0, p0, _, _, _, rfl, rfl, SqT.of (n1 _ _ a1), atI1, _, rfl, tp, _, _, _, rfl, rfl, SqL.of (n1 _ _ f0), atI0, p0, _, _, _, rfl, rfl, SqT.of (n1 _ _ a1), atI2, le_line (by show 4 ≤ _; decide), fun sp hsp => ?_⟩
  refine alloc_rd (upd _ sp _) rfl hsp fun H2 n2 x2 => ?_
  have s2 := n1.trans n2
  have st2 : StAt th tr H2 (.ref sp) (.table "t") := ⟨sp, _, hp0, rp0, rs0, rfl, x2, ⟨qp, rfl, n2 _ _ x1⟩, s2 _ _ a3, a4.same s2, a5⟩
  have tt : ("t" : Str) ∈ tabs := List.mem_cons_self
  have g2 : Gr th tr 0 1 0 (.table "t") := by
    refine ⟨tt, TT.ct, ?_, fun x hx => ?_, by decide⟩
    · have : (lineOf (.table "t")).length ≤ 10 := by decide +kernel
      have : twM 0 = 1 := rfl
      omega
    · obtain ⟨m, _, _, e⟩ := TT.t
      have hx' : x ∈ th "t" := hx
      rw [e] at hx'
      exact lIn x (List.mem_of_mem_take hx')
  refine ⟨_, rfl, cp, _, rfl, .inl (s2.seq hS), _, rfl, by omega, by rw [hln]; omega, for_range (lo := 0) (n := (ns.map V.int).length) (fun i σ H' => ∃ (v : V) (q : Qn) (used twice : Nat) (o5 o6 o7 : Option V), σ = [some (.ref cp), some (.ref tp), some v, some (.int (used : Int)), some (.int (twice : Int)), o5, o6, o7] ∧ Same H H' ∧ StAt th tr H' v q ∧ Gr th tr i used twice q ∧ 1 ≤ used ∧ used ≤ 3 ∧ twice ≤ 2)
    ⟨_, _, 1, 0, none, none, none, rfl, s2, st2, g2, by decide, by decide, by decide⟩ ?_ ?_⟩
  · rintro i σ H3 hi ⟨v, q, used, twice, o5, o6, o7, rfl, s3, st3, g3, u1, u3, w2⟩
    rw [hln] at hi
    have hi24 : i ≤ 24 := by omega
    have hat : atI (ns.map V.int) (0 + (i : Int)) = some (.int (ns.getD i 0)) := by
      rw [Int.zero_add]; exact atI_nat (int_at hi)
    generalize ns.getD i 0 = c at hat
    have hS3 := s3.seq hS
    have big := g3.big hi24
    have rows := g3.rows
    have wide := g3.wide TT (by omega) u3
    refine ⟨_, rfl, _, rfl, cp, _, _, _, rfl, rfl, hS3, hat, _, _, rfl, rfl, ⟨by decide, by decide⟩, _, rfl, _, _, rfl, rfl, ?_⟩
    refine ⟨_, rfl, _, rfl, cp, _, _, _, rfl, rfl, hS3, hat, _, rfl, _, _, rfl, rfl, .inl ⟨by decide, by decide⟩, _, _, rfl, rfl, _, _, rfl, rfl, (by show (0 : Int) < 9; decide), ?_⟩
    refine ⟨_, rfl, _, _, rfl, rfl, _, rfl, ?_⟩
    refine ite2 (fun b0 => ?_) (fun b0 => ?_)
    · refine ⟨_, rfl, _, rfl, th, tr, q, v, _, rfl, TT, st3, g3.ok, by omega, by omega, fun v' c' H' s' st' sm sz => ?_⟩
      exact ⟨v', _, used, twice, _, _, _, rfl, s3.trans s', st', g3.pick TT sm sz, u1, u3, w2⟩
    refine ⟨_, rfl, rfl, _, rfl, ?_⟩
    refine ite2 (fun b1 => ?_) (fun b1 => ?_)
    · refine ⟨_, rfl, _, rfl, th, tr, q, v, _, rfl, TT, st3, g3.ok, by omega, by omega, by omega, fun v' ns' H' s' st' ne nd sub => ?_⟩
      exact ⟨v', _, used, twice, _, _, _, rfl, s3.trans s', st', g3.cols TT hi24 u3 ne nd sub, u1, u3, w2⟩
    refine els_rd (iteF ?els) (fun els => ?main)
    case main =>
      refine ⟨_, rfl, rfl, _, rfl, ?_⟩
      refine ite2 (fun b2 => ?_) (fun b2 => els)
      refine ⟨_, rfl, _, _, rfl, rfl, _, rfl, ?_⟩
      refine ite2 (fun b3 => ?_) (fun b3 => els)
      have b3' : (used : Int) < 3 := of_decide_eq_true b3
      obtain ⟨p, qv, hp, rp, rs, rfl, h1, h2, h3, h4', h5⟩ := id st3
      have lrs : rs.length ≤ 60 := by rw [← h5, List.length_map] at rows; exact rows
      obtain ⟨tv, n, tat, ht, mn, hdj, hin, hrn⟩ : ∃ (tv : V) (n : Str), atI [V.ref p0, v1, v2, v3] (used : Int) = some tv ∧ TabAt th tr H3 tv n ∧ n ∈ tabs ∧ (∀ x ∈ headsOf th q, x ∉ th n) ∧ (∀ x ∈ th n, x ∈ pool 0 (used + 1)) ∧ (tr n).length ≤ 10 := by
        have : used = 1 ∨ used = 2 := by omega
        rcases this with rfl | rfl
        · refine ⟨v1, _, atI1, t1.same s3, by simp [tabs], fun x hx hy => ?_, ?_, TT.cw⟩
          · rw [TT.w] at hy
            exact pool_w x hy (pool_mono (g3.heads x hx) (by omega) (Nat.le_refl _))
          · rw [TT.w]; exact wIn
        · refine ⟨v2, _, atI2, t2.same s3, by simp [tabs], fun x hx hy => ?_, ?_, TT.cx⟩
          · rw [TT.x] at hy
            exact pool_e x hy (pool_mono (g3.heads x hx) (by omega) (Nat.le_refl _))
          · rw [TT.x]; exact eIn
      obtain ⟨tp', thp, trp, ts, rfl, c1, c3, c4, c5⟩ := id ht
      have lts : ts.length = (tr n).length := by rw [← c5, List.length_map]
      have f3 := s3 _ _ f0
      refine ⟨_, rfl, p, _, _, _, rfl, rfl, SqT.of h1, atI3, rp, _, rfl, .inl (SqL.of h4'.1), _, rfl, _, rfl, tp, _, _, _, rfl, rfl, SqL.of f3, tat, tp', _, _, _, rfl, rfl, SqT.of c1, atI2, trp, _, rfl, .inl (SqL.of c4.1), _, _, rfl, rfl, .inl ⟨by rw [List.length_map]; omega, by rw [List.length_map]; omega⟩, _, _, rfl, rfl, _, rfl, ?_⟩
      refine ite2 (fun b4 => ?_) (fun b4 => els)
      have b4' := of_decide_eq_true b4
      rw [List.length_map, List.length_map, lts] at b4'
      have b5 : (rowsOf th tr q).length * (tr n).length ≤ 30 := by
        rw [← h5, List.length_map]
        exact_mod_cast b4'
      have thl : (th n).length ≤ 1000 := by
        have : used = 1 ∨ used = 2 := by omega
        have := nodup_len (TT.hd n mn).2 fun x hx => pool_mono (hin x hx) (Nat.zero_le 26) (show used + 1 ≤ 3 by omega)
        have := pool_len
        omega
      refine ⟨_, rfl, _, rfl, _, rfl, tp, _, _, _, rfl, rfl, SqL.of f3, tat, _, rfl, th, tr, q, n, _, _, _, rfl, TT, st3, g3.ok, ht, mn, hdj, by omega, by omega, by omega, by omega, thl, fun v' q' H' s' st' un => ?_⟩
      refine ⟨_, rfl, _, _, rfl, rfl, ?_⟩
      exact ⟨v', q', used + 1, twice, _, _, _, rfl, s3.trans s', st', g3.unite un hin b5, by omega, by omega, w2⟩
    case els =>
      refine els_rd (iteF ?els2) (fun els => ?main2)
      case main2 =>
        refine ⟨_, rfl, rfl, _, rfl, ?_⟩
        refine ite2 (fun b2 => ?_) (fun b2 => els)
        refine ⟨_, rfl, _, _, rfl, rfl, _, rfl, ?_⟩
        refine ite2 (fun b3 => ?_) (fun b3 => els)
        have b3' : (twice : Int) < 2 := of_decide_eq_true b3
        have tw2 : twice < 2 := by omega
        obtain ⟨p, qv, hp, rp, rs, rfl, h1, h2, h3, h4', h5⟩ := id st3
        refine ⟨_, rfl, p, _, _, _, rfl, rfl, SqT.of h1, atI3, rp, _, rfl, .inl (SqL.of h4'.1), _, rfl, _, _, rfl, rfl, .inl ⟨by decide, by decide⟩, _, _, rfl, rfl, _, _, rfl, rfl, _, rfl, ?_⟩
        refine ite2 (fun b4 => ?_) (fun b4 => els)
        have b4' := of_decide_eq_true b4
        rw [List.length_map] at b4'
        have b5 : (rowsOf th tr q).length ≤ 15 := by rw [← h5, List.length_map]; omega
        have f3 := s3 _ _ f0
        obtain ⟨p3, hp3, rp3, rs3, rfl, d1, d3, d4, d5⟩ := id (t3.same s3)
        refine ⟨_, rfl, p, _, _, _, rfl, rfl, SqT.of h1, atI2, _, rfl, tp, _, _, _, rfl, rfl, SqL.of f3, atI3, p3, _, _, _, rfl, rfl, SqT.of d1, atI1, hp, hp3, _, _, rfl, rfl, SqL.of h3, SqL.of d3, flat_strs _, flat_strs _, _, rfl, _, ⟨_, rfl, _, _, rfl, rfl, (by show (0 : Int) < 3; decide), rfl, _, rfl, rfl, rfl⟩, ?_⟩
        rw [eqL_strs]
        refine ite2 (fun b6 => ?_) (fun b6 => ?_)
        · rw [Bool.and_eq_true] at b6
          have eh : headsOf th q = th "tuvz" := of_decide_eq_true b6.1
          refine ⟨_, rfl, _, rfl, tp, _, _, _, rfl, rfl, SqL.of f3, atI3, _, rfl, th, tr, q, "tuvz", _, _, _, rfl, st3, t3.same s3, eh, by decide +kernel, by omega, by omega, by rw [TT.cz]; decide, fun v' q' H' s' st' e' => ?_⟩
          refine ⟨_, rfl, _, _, rfl, rfl, ?_⟩
          have mz : ("tuvz" : Str) ∈ tabs := by simp [tabs]
          have lz : (lineOf (.table "tuvz")).length ≤ (lineOf q).length + 1000 := Nat.le_trans (show (lineOf (.table "tuvz")).length ≤ 10 by decide +kernel) (by omega)
          have rz : (rowsOf th tr q).length + (rowsOf th tr (.table "tuvz")).length ≤ 60 := by
            show _ + (tr "tuvz").length ≤ 60
            rw [TT.cz]; omega
          exact ⟨v', q', used, twice + 1, _, _, _, rfl, s3.trans s', st', g3.both TT tw2 (r := .table "tuvz") mz eh.symm lz rz (by show 1 ≤ _; omega) e', u1, u3, by omega⟩
        · refine ⟨_, rfl, _, rfl, th, tr, q, _, _, rfl, TT, st3, g3.ok, by omega, by omega, fun v' q' c' H' s' st' sm sz e' => ?_⟩
          refine ⟨_, rfl, _, _, rfl, rfl, ?_⟩
          have gp := g3.pick TT sm sz
          have rz : (rowsOf th tr q).length + (rowsOf th tr (.pick c' q)).length ≤ 60 := by
            have : (rowsOf th tr (.pick c' q)).length ≤ (rowsOf th tr q).length := List.length_filter_le _ _
            omega
          exact ⟨v', q', used, twice + 1, _, _, _, rfl, s3.trans s', st', g3.both TT tw2 (r := .pick c' q) gp.ok rfl (pick_len (name_len TT g3.ok) sm sz) rz (by show depth q + 1 ≤ _; omega) e', u1, u3, by omega⟩
      case els2 =>
        refine ⟨_, rfl, rfl, _, rfl, ?_⟩
        refine ite2 (fun b2 => ?_) (fun b2 => ?_)
        · refine ⟨_, rfl, _, rfl, th, tr, q, v, _, rfl, st3, by omega, fun v' q' H' s' st' hq' => ?_⟩
          obtain ⟨m, mm, rfl | ⟨m', mm', rfl⟩⟩ := hq'
          · exact ⟨v', _, used, twice, _, _, _, rfl, s3.trans s', st', g3.first mm, u1, u3, w2⟩
          · exact ⟨v', _, used, twice, _, _, _, rfl, s3.trans s', st', g3.firsts mm mm', u1, u3, w2⟩
        refine ⟨_, rfl, rfl, _, rfl, ?_⟩
        refine ite2 (fun b3 => ?_) (fun b3 => ?_)
        · obtain ⟨ch, ec, es⟩ := sign_at (i := i) (by omega)
          have l1 := (sign_len _ (signs_mem (i := i) (by omega))).2.2
          refine ⟨_, rfl, _, rfl, _, rfl, alph, _, _, rfl, rfl, alph_len, ec, th, tr, q, v, _, _, rfl, TT, st3, g3.ok, by rw [es]; exact l1, by omega, by omega, fun v' a b H' s' st' ma mb => ?_⟩
          rw [es] at st'
          exact ⟨v', _, used, twice, _, _, _, rfl, s3.trans s', st', g3.group TT (by omega) u3 ma mb, u1, u3, w2⟩
        · refine ⟨_, rfl, _, rfl, th, tr, q, v, _, rfl, TT, st3, g3.ok, by omega, by omega, fun v' n' H' s' st' mn => ?_⟩
          exact ⟨v', _, used, twice, _, _, _, rfl, s3.trans s', st', g3.sort TT mn, u1, u3, w2⟩
  · rintro σ H3 ⟨v, q, used, twice, o5, o6, o7, rfl, s3, st3, g3, u1, u3, w2⟩
    rw [hln] at g3
    exact ⟨_, rfl, fin v q used twice H3 s3 st3 g3 u3 w2⟩
theorem ints_snoc {zs : List Int} {z : Int} {j : Nat} (h : zs.length = j) : ∃ zs' : List Int, zs.map V.int ++ [V.int z] = zs'.map V.int ∧ zs'.length = j + 1 :=
  ⟨zs ++ [z], by rw [List.map_append]; rfl, by rw [List.length_append, h]; rfl⟩
theorem last_at {ns : List Int} (h : 0 < ns.length) : atI (ns.map V.int) (-1) = some (.int (ns.getD (ns.length - 1) 0)) := by
  have e := int_at (xs := ns) (i := ns.length - 1) (by omega)
  have h2 : ixN (ns.map V.int).length (-1) = some (ns.length - 1) := by
    unfold ixN
    rw [if_neg (by decide), if_pos (by rw [List.length_map]; omega), List.length_map]
    congr 1
    omega
  unfold atI
  rw [h2]
  exact e
structure Stk (H H' : Hp) (rp r0 r1 r2 : Addr) (a b c : List (Addr × List Int)) (hl : Nat) : Prop where
  same : Same H H'
  top : H' rp = some (.lst [.ref r0, .ref r1, .ref r2])
  h0 : RowsAt H' r0 a
  h1 : RowsAt H' r1 b
  h2 : RowsAt H' r2 c
  f0 : H r0 = none
  f1 : H r1 = none
  f2 : H r2 = none
  n01 : r0 ≠ r1
  n02 : r0 ≠ r2
  n12 : r1 ≠ r2
  np0 : rp ≠ r0
  np1 : rp ≠ r1
  np2 : rp ≠ r2
  a0 : ∀ r ∈ a, r.1 ≠ r0 ∧ r.1 ≠ r1 ∧ r.1 ≠ r2
  a1 : ∀ r ∈ b, r.1 ≠ r0 ∧ r.1 ≠ r1 ∧ r.1 ≠ r2
  a2 : ∀ r ∈ c, r.1 ≠ r0 ∧ r.1 ≠ r1 ∧ r.1 ≠ r2
  w0 : ∀ r ∈ a, r.2.length = hl
  w1 : ∀ r ∈ b, r.2.length = 2
  w2 : ∀ r ∈ c, r.2.length = 1
theorem Stk.new {H H' H1 : Hp} {rp r0 r1 r2 : Addr} {a b c : List (Addr × List Int)} {hl : Nat} (s : Stk H H' rp r0 r1 r2 a b c hl) (e : Same H' H1) : Stk H H1 rp r0 r1 r2 a b c hl :=
  { s with same := s.same.trans e, top := e _ _ s.top, h0 := s.h0.same e, h1 := s.h1.same e, h2 := s.h2.same e }
theorem Stk.fresh {H H' : Hp} {rp r0 r1 r2 q : Addr} {a b c : List (Addr × List Int)} {hl : Nat} (s : Stk H H' rp r0 r1 r2 a b c hl) (h : H' q = none) : q ≠ r0 ∧ q ≠ r1 ∧ q ≠ r2 :=
  ⟨(ne_of_none s.h0.1 h).symm, (ne_of_none s.h1.1 h).symm, (ne_of_none s.h2.1 h).symm⟩
theorem Stk.push0 {H H' : Hp} {rp r0 r1 r2 q : Addr} {a b c : List (Addr × List Int)} {hl : Nat} {x : List Int} (s : Stk H H' rp r0 r1 r2 a b c hl) (hq : H' q = some (.lst (x.map V.int))) (nq : q ≠ r0 ∧ q ≠ r1 ∧ q ≠ r2) (hx : x.length = hl) :
    Stk H (upd H' r0 (.lst (refs a ++ [V.ref q]))) rp r0 r1 r2 (a ++ [(q, x)]) b c hl where
  same := s.same.put s.f0
  top := by rw [upd_ne s.np0]; exact s.top
  h0 := s.h0.push nq.1 hq
  h1 := s.h1.kp kp_upd s.n01.symm fun r m => (s.a1 r m).1
  h2 := s.h2.kp kp_upd s.n02.symm fun r m => (s.a2 r m).1
  f0 := s.f0
  f1 := s.f1
  f2 := s.f2
  n01 := s.n01
  n02 := s.n02
  n12 := s.n12
  np0 := s.np0
  np1 := s.np1
  np2 := s.np2
  a0 := fun r m => (List.mem_append.mp m).elim (s.a0 r) fun m => by rw [List.mem_singleton.mp m]; exact nq
  a1 := s.a1
  a2 := s.a2
  w0 := fun r m => (List.mem_append.mp m).elim (s.w0 r) fun m => by rw [List.mem_singleton.mp m]; exact hx
  w1 := s.w1
  w2 := s.w2
theorem Stk.push1 {H H' : Hp} {rp r0 r1 r2 q : Addr} {a b c : List (Addr × List Int)} {hl : Nat} {x : List Int} (s : Stk H H' rp r0 r1 r2 a b c hl) (hq : H' q = some (.lst (x.map V.int))) (nq : q ≠ r0 ∧ q ≠ r1 ∧ q ≠ r2) (hx : x.length = 2) :
    Stk H (upd H' r1 (.lst (refs b ++ [V.ref q]))) rp r0 r1 r2 a (b ++ [(q, x)]) c hl where
  same := s.same.put s.f1
  top := by rw [upd_ne s.np1]; exact s.top
  h0 := s.h0.kp kp_upd s.n01 fun r m => (s.a0 r m).2.1
  h1 := s.h1.push nq.2.1 hq
  h2 := s.h2.kp kp_upd s.n12.symm fun r m => (s.a2 r m).2.1
  f0 := s.f0
  f1 := s.f1
  f2 := s.f2
  n01 := s.n01
  n02 := s.n02
  n12 := s.n12
  np0 := s.np0
  np1 := s.np1
  np2 := s.np2
  a0 := s.a0
  a1 := fun r m => (List.mem_append.mp m).elim (s.a1 r) fun m => by rw [List.mem_singleton.mp m]; exact nq
  a2 := s.a2
  w0 := s.w0
  w1 := fun r m => (List.mem_append.mp m).elim (s.w1 r) fun m => by rw [List.mem_singleton.mp m]; exact hx
  w2 := s.w2
theorem Stk.push2 {H H' : Hp} {rp r0 r1 r2 q : Addr} {a b c : List (Addr × List Int)} {hl : Nat} {x : List Int} (s : Stk H H' rp r0 r1 r2 a b c hl) (hq : H' q = some (.lst (x.map V.int))) (nq : q ≠ r0 ∧ q ≠ r1 ∧ q ≠ r2) (hx : x.length = 1) :
    Stk H (upd H' r2 (.lst (refs c ++ [V.ref q]))) rp r0 r1 r2 a b (c ++ [(q, x)]) hl where
  same := s.same.put s.f2
  top := by rw [upd_ne s.np2]; exact s.top
  h0 := s.h0.kp kp_upd s.n02 fun r m => (s.a0 r m).2.2
  h1 := s.h1.kp kp_upd s.n12 fun r m => (s.a1 r m).2.2
  h2 := s.h2.push nq.2.2 hq
  f0 := s.f0
  f1 := s.f1
  f2 := s.f2
  n01 := s.n01
  n02 := s.n02
  n12 := s.n12
  np0 := s.np0
  np1 := s.np1
  np2 := s.np2
  a0 := s.a0
  a1 := s.a1
  a2 := fun r m => (List.mem_append.mp m).elim (s.a2 r) fun m => by rw [List.mem_singleton.mp m]; exact nq
  w0 := s.w0
  w1 := s.w1
  w2 := fun r m => (List.mem_append.mp m).elim (s.w2 r) fun m => by rw [List.mem_singleton.mp m]; exact hx
theorem sc__law_stocked : FnScope ["_law_cells", "_law_more", "_law_rows", "_law_heads", "_law_k", "_law_cell", "_law_one", "_law_other", "_law_rest", "_law_first", "_law_made"] ["_law_cells", "_law_more"] (defScope s__law_stocked) := ⟨rfl, rfl, rfl, by decide +kernel, rfl, by decide +kernel, by decide +kernel⟩
set_option maxHeartbeats 1600000 in
theorem ok__law_stocked (F : Fun K "_law_stocked" "_law_stocked" s__law_stocked f fd) (T : Txt K mg) : FnOk P w K mg base CX0 1 f fd ["_law_cells", "_law_more"] (spStocked K) := by
  refine F.ok sc__law_stocked (fun vs H Q E h => ?_) (fun cdv A outer s H vs Q E hr h => ?_)
  · obtain ⟨cp, ns, more, rfl, _⟩ := h
    rfl
  obtain ⟨cp, ns, more, rfl, hS, hn, hm0, hm1, fin⟩ := h
  have hln : (ns.map V.int).length = ns.length := List.length_map _
  have z0 : 0 ≤ sizeLine := by decide
  refine ⟨_, (pss_cons (ps_set (i := 2) sc__law_stocked.nd rfl (Or.inl rfl) (pe_lst (pa_conL (pe_lst pa_nil) (pa_conL (pe_lst pa_nil) (pa_conL (pe_lst pa_nil) pa_nil)))))
    (pss_cons (ps_set (i := 3) sc__law_stocked.nd rfl (Or.inr rfl) (pe_lst (pa_conC pe_str (pa_conC pe_str (pa_conC pe_str (pa_conC pe_str (pa_conC pe_str (pa_conC pe_str (pa_conC pe_str (pa_conC pe_str (pa_conC pe_str (pa_conC pe_str (pa_conC pe_str (pa_conC pe_str pa_nil))))))))))))))
    (pss_cons (ps_set (i := 3) sc__law_stocked.nd rfl (Or.inr rfl) (pe_slice sl_list (pv 3) po_none (po_some (pe_ix ix_list (pe_lst (pa_conB (pe_op op_add pe_int (pe_op op_mod (pe_callB (call_sum rfl) rfl T.sum PyProof.Rows.boot_sum (pa_conS (pe_slice sl_list (pv 0) po_none (po_some pe_int)) pa_nil)) pe_int)) (pa_conC pe_int pa_nil))) (pe_callTy call_int1 rfl T.int PyProof.Rows.boot_int (pa_conP (pe_cmpR op_eq (pe_op op_mod (pe_callB (call_sum rfl) rfl T.sum PyProof.Rows.boot_sum (pa_conS (pe_slice sl_list (pv 0) po_none (po_some pe_int)) pa_nil)) pe_int) pe_int (nomark _)) pa_nil)) (fun _ _ => rfl)))))
    (pss_cons (ps_for PassesOwn.never rfl (pi_range1 rfl T.range (pa_conK (pe_callB (call_max2 rfl) rfl T.max PyProof.Rows.boot_max (pa_conC pe_int (pa_conK (pe_callB call_len_seq rfl T.len PySem.boot_len (pa_conN (pv 0) pa_nil)) pa_nil))) pa_nil)) (pg_name (i := 4) sc__law_stocked.nd rfl (Or.inr rfl))
      (pss_cons (ps_set (i := 5) sc__law_stocked.nd rfl (Or.inr rfl) (pe_op op_add (pe_op op_mul pe_int (pv 4)) pe_int))
      (pss_cons (ps_ifJ (pt_cmpR op_lt (pv 4) (pe_callB call_len_seq rfl T.len PySem.boot_len (pa_conN (pv 0) pa_nil)) (nomark _))
        (pss_one (ps_set (i := 5) sc__law_stocked.nd rfl (Or.inr rfl) (pe_ix ix_list (pv 0) (pv 4) (fun _ _ => rfl))))
        pss_nil)
      (pss_cons (ps_set (i := 6) sc__law_stocked.nd rfl (Or.inl rfl) (pe_op op_sub (pe_op op_mod (pv 5) pe_int) pe_int))
      (pss_cons (ps_set (i := 7) sc__law_stocked.nd rfl (Or.inl rfl) (pe_op op_sub (pe_op op_mod (pe_op op_add (pe_op op_fdiv (pv 5) pe_int) (pv 4)) pe_int) pe_int))
      (pss_cons (ps_ifJ (pt_cmpR op_eq (pe_op op_mod (pv 5) pe_int) pe_int (nomark _))
        (pss_one (ps_set (i := 7) sc__law_stocked.nd rfl (Or.inl rfl) (pe_op op_add (pv 7) (pe_powC ⟨by decide, by decide, by decide⟩))))
        pss_nil)
      (pss_cons (ps_setComp (j := 8) rfl sc__law_stocked.nd rfl (Or.inl rfl) (CompSc.of (sx := defScope s__law_stocked) (NX := ["_law_cells", "_law_more", "_law_rows", "_law_heads", "_law_k", "_law_cell", "_law_one", "_law_other", "_law_rest", "_law_first", "_law_made"]) (fr := ["_law_cell", "_law_k"]) (ix := [5, 4]) rfl rfl (by decide +kernel)) (pi_range2 rfl T.range (pa_conC pe_int (pa_conK (pe_callB call_len_seq rfl T.len PySem.boot_len (pa_conN (pv 3) pa_nil)) pa_nil))) (fun _ _ _ _ _ _ => pif_nil) (fun _ _ _ _ _ _ => (pe_op op_mod (pe_op op_add (pe_op op_add (pe_op op_fdiv (pv 1) pe_int) (pv 2)) (pv 0)) pe_int)))
      (pss_cons (ps_set (i := 9) sc__law_stocked.nd rfl (Or.inl rfl) (pe_op op_cat (pe_lst (pa_conN (pv 6) (pa_conN (pv 7) pa_nil))) (pv 8)))
      (pss_one (ps_expr (pe_bm PySem.F.plainAttrs_list PySem.F.slot_list_append PySem.F.type_list_append mt_append (pe_ix ix_list (pv 2) (pe_op op_mod (pv 4) pe_int) (fun _ _ => rfl)) (pa_conS (pe_ix ix_list (pe_lst (pa_conN (pv 9) (pa_conL (pe_lst (pa_conN (pv 7) (pa_conN (pv 6) pa_nil))) (pa_conL (pe_lst (pa_conN (pv 6) pa_nil)) pa_nil)))) (pe_op op_mod (pv 4) pe_int) (fun _ _ => rfl)) pa_nil))))))))))))
    (pss_cons (ps_ifJ (pt_cmpR op_eq (pe_op op_mod (pe_callB (call_sum rfl) rfl T.sum PyProof.Rows.boot_sum (pa_conS (pe_slice sl_list (pv 0) (po_some (pe_un un_neg pe_int)) po_none) pa_nil)) pe_int) pe_int (nomark _))
      (pss_one (ps_for PassesOwn.never rfl (pi_range1 rfl T.range (pa_conN (pv 1) pa_nil)) (pg_name (i := 4) sc__law_stocked.nd rfl (Or.inr rfl))
        (pss_one (ps_expr (pe_bm PySem.F.plainAttrs_list PySem.F.slot_list_append PySem.F.type_list_append mt_append (pe_ix ix_list (pv 2) pe_int (fun _ _ => rfl)) (pa_conM (pe_comp rfl (CompSc.of (sx := defScope s__law_stocked) (NX := ["_law_cells", "_law_more", "_law_rows", "_law_heads", "_law_k", "_law_cell", "_law_one", "_law_other", "_law_rest", "_law_first", "_law_made"]) (fr := ["_law_k"]) (ix := [4]) rfl rfl (by decide +kernel)) (pi_range1 rfl T.range (pa_conK (pe_callB call_len_seq rfl T.len PySem.boot_len (pa_conN (pv 3) pa_nil)) pa_nil)) (fun _ _ _ _ _ _ => pif_nil) (fun _ _ _ _ _ _ => (pe_op op_sub (pe_op op_mod (pe_op op_add (pv 1) (pv 0)) pe_int) pe_int))) pa_nil))))))
      pss_nil)
    (pss_cons (ps_ifJ (PW.pt (pw_and (pt_cmpR op_gt (pe_callB call_len_seq rfl T.len PySem.boot_len (pa_conN (pv 0) pa_nil)) pe_int (nomark _)) (pw_and1 (pt_cmpR op_eq (pe_op op_mod (pe_ix ix_list (pv 0) pe_int (fun _ _ => rfl)) pe_int) pe_int (nomark _)))))
      (pss_one (ps_asg (pe_lst pa_nil) (pg_sub (pv 2) (pe_op op_mod (pe_ix ix_list (pv 0) (pe_un un_neg pe_int) (fun _ _ => rfl)) pe_int) set_list)))
      pss_nil)
    (pss_cons (ps_set (i := 10) sc__law_stocked.nd rfl (Or.inl rfl) (pe_lst (pa_conT (pe_tup (pa_conC pe_str (pa_conN (pv 3) (pa_conS (pe_ix ix_list (pv 2) pe_int (fun _ _ => rfl)) pa_nil)))) (pa_conT (pe_tup (pa_conC pe_str (pa_conL (pe_lst (pa_conC pe_str (pa_conC pe_str pa_nil))) (pa_conS (pe_ix ix_list (pv 2) pe_int (fun _ _ => rfl)) pa_nil)))) pa_nil))))
    (pss_cons (ps_setComp (j := 7) rfl sc__law_stocked.nd rfl (Or.inl rfl) (CompSc.of (sx := defScope s__law_stocked) (NX := ["_law_cells", "_law_more", "_law_rows", "_law_heads", "_law_k", "_law_cell", "_law_one", "_law_other", "_law_rest", "_law_first", "_law_made"]) (fr := ["_law_heads"]) (ix := [3]) rfl rfl (by decide +kernel)) (pi_range1 rfl T.range (pa_conC pe_int pa_nil)) (fun _ _ _ _ _ _ => pif_nil) (fun _ _ _ _ _ _ => (pe_comp rfl (CompSc.of2 (sx := defScope s__law_stocked) (NX := ["_law_m", "_law_heads"]) (fr := ["_law_m"]) (ix := [0]) rfl rfl (by decide +kernel)) (pi_range1 rfl T.range (pa_conK (pe_callB (call_len_seqK (K := K) rfl) rfl T.len PySem.boot_len (pa_conN (pv 1) pa_nil)) pa_nil)) (fun _ _ _ _ _ _ => pif_nil) (fun _ _ _ _ _ _ => (pe_op op_sub (pe_op op_mod (pe_op op_add (pe_op op_mul pe_int (pv 1)) (pv 0)) pe_int) pe_int)))))
    (pss_one (ps_ret (pe_op op_cat (pv 10) (pe_lst (pa_conT (pe_tup (pa_conC pe_str (pa_conL (pe_lst (pa_conC pe_str pa_nil)) (pa_conS (pe_ix ix_list (pv 2) pe_int (fun _ _ => rfl)) pa_nil)))) (pa_conT (pe_tup (pa_conC pe_str (pa_conK (pe_callTy call_list_of rfl T.list PyProof.Rows.boot_list (pa_conN (pv 3) pa_nil)) (pa_conN (pv 7) pa_nil)))) pa_nil)))))))))))))), ?_⟩
  refine ⟨z0, fun r0 hr0 => ?_⟩
  refine alloc_rd (upd _ r0 _) rfl hr0 fun H1 n1 x1 => ?_
  refine ⟨z0, fun r1 hr1 => ?_⟩
  refine alloc_rd (upd _ r1 _) rfl hr1 fun H2 n2 x2 => ?_
  refine ⟨z0, fun r2 hr2 => ?_⟩
  refine alloc_rd (upd _ r2 _) rfl hr2 fun H3 n3 x3 => ?_
  refine ⟨le_line (by show 3 ≤ _; decide), fun rp hrp => ?_⟩
  refine alloc_rd (upd _ rp _) rfl hrp fun H4 n4 x4 => ?_
  refine ⟨le_line (by show 12 ≤ _; decide), fun hp0 hhp0 => ?_⟩
  refine alloc_rd (upd _ hp0 _) rfl hhp0 fun H5 n5 x5 => ?_
  replace x5 : H5 hp0 = some (.lst (letters.map V.str)) := x5
  have s3 := n1.trans (n2.trans n3)
  have s5 := s3.trans (n4.trans n5)
  have stk5 : ∀ hl, Stk H H5 rp r0 r1 r2 [] [] [] hl := fun hl => ⟨s5, n5 _ _ x4, rows_nil (n5 _ _ (n4 _ _ (n3 _ _ (n2 _ _ x1)))), rows_nil (n5 _ _ (n4 _ _ (n3 _ _ x2))), rows_nil (n5 _ _ (n4 _ _ x3)), hr0, n1.free hr1, (n1.trans n2).free hr2, ne_of_none x1 hr1, ne_of_none (n2 _ _ x1) hr2, ne_of_none x2 hr2,
    (ne_of_none (n3 _ _ (n2 _ _ x1)) hrp).symm, (ne_of_none (n3 _ _ x2) hrp).symm, (ne_of_none x3 hrp).symm, fun _ z => (by cases z), fun _ z => (by cases z), fun _ z => (by cases z), fun _ z => (by cases z), fun _ z => (by cases z), fun _ z => (by cases z)⟩
  refine ⟨_, rfl, _, rfl, _, rfl, cp, _, rfl, s5.seq hS, fun l1 hl1 => ?_⟩
  rw [cut_map]
  refine alloc_rd (upd _ l1 _) rfl hl1 fun H6 n6 x6 => ?_
  refine ⟨l1, _, rfl, SqL.of x6, _, _, rfl, rfl, (by show (0 : Int) < 5; decide), _, _, rfl, rfl, le_line (by show 2 ≤ _; decide), fun l2 hl2 => ?_⟩
  generalize ((ns.drop (HT.sIx ns.length 0 none)).take (HT.sIx ns.length ns.length (some 1) - HT.sIx ns.length 0 none)).sum = sm
  refine alloc_rd (upd _ l2 _) rfl hl2 fun H7 n7 x7 => ?_
  refine ⟨_, rfl, _, rfl, cp, _, rfl, (s5.trans (n6.trans n7)).seq hS, fun l3 hl3 => ?_⟩
  rw [cut_map]
  refine alloc_rd (upd _ l3 _) rfl hl3 fun H8 n8 x8 => ?_
  refine ⟨l3, _, rfl, SqL.of x8, _, _, rfl, rfl, (by show (0 : Int) < 11; decide), rfl, .inr ⟨_, rfl, ?_⟩⟩
  have n58 := n6.trans (n7.trans n8)
  obtain ⟨m, m1, m2, em⟩ : ∃ m : Int, 2 ≤ m ∧ m ≤ 12 ∧ atI [V.int (2 + sm % 5), V.int 12] (if decide (V.int (((ns.drop (HT.sIx ns.length 0 none)).take (HT.sIx ns.length ns.length (some 1) - HT.sIx ns.length 0 none)).sum % 11) = V.int 4) = true then 1 else 0) = some (.int m) := by
    cases decide (V.int (((ns.drop (HT.sIx ns.length 0 none)).take (HT.sIx ns.length ns.length (some 1) - HT.sIx ns.length 0 none)).sum % 11) = V.int 4) with
    | true => exact ⟨12, by decide, by decide, atI1⟩
    | false => exact ⟨2 + sm % 5, by omega, by omega, atI0⟩
  refine ⟨l2, _, _, _, rfl, rfl, SqL.of (n8 _ _ x7), em, _, rfl, hp0, _, rfl, SqL.of (n58 _ _ x5), fun hp hhp => ?_⟩
  rw [cut_first (by omega), ← List.map_take]
  refine alloc_rd (upd _ hp _) rfl hhp fun H9 n9 x9 => ?_
  have hl12 : (letters.take m.toNat).length = m.toNat := by
    rw [List.length_take]
    have : letters.length = 12 := rfl
    omega
  have stk9 := (stk5 m.toNat).new (n58.trans n9)
  have hhl : ((letters.take m.toNat).map V.str).length = m.toNat := by rw [List.length_map, hl12]
  have nh0 : hp ≠ r0 := (ne_of_none ((n58 _ _ ((stk5 0).h0.1))) hhp).symm
  have nh1 : hp ≠ r1 := (ne_of_none ((n58 _ _ ((stk5 0).h1.1))) hhp).symm
  have nh2 : hp ≠ r2 := (ne_of_none ((n58 _ _ ((stk5 0).h2.1))) hhp).symm
  have nhp : hp ≠ rp := (ne_of_none ((n58 _ _ ((stk5 0).top))) hhp).symm
  have hpH : ∀ {H' : Hp}, Same H9 H' → H' hp = some (.lst ((letters.take m.toNat).map V.str)) := fun e => e _ _ x9
  have emax : (if (((ns.map V.int).length : Nat) : Int) > 12 then (((ns.map V.int).length : Nat) : Int) else 12) = ((max 12 ns.length : Nat) : Int) := by
    rw [hln]; split <;> omega
  refine ⟨_, rfl, cp, _, rfl, .inl (stk9.same.seq hS), _, _, rfl, ((max 12 ns.length : Nat) : Int), congrArg (fun z => [V.int z]) emax, by omega, by omega, for_range (lo := 0) (n := max 12 ns.length) (fun i σ H' => ∃ (a b c : List (Addr × List Int)) (o4 o5 o6 o7 o8 o9 : Option V), σ = [some (.ref cp), some (.int more), some (.ref rp), some (.ref hp), o4, o5, o6, o7, o8, o9, none] ∧ Stk H H' rp r0 r1 r2 a b c m.toNat ∧ H' hp = some (.lst ((letters.take m.toNat).map V.str)) ∧
    a.length = (i + 2) / 3 ∧ b.length = (i + 1) / 3 ∧ c.length = i / 3) ⟨[], [], [], none, none, none, none, none, none, rfl, stk9, x9, rfl, rfl, rfl⟩ ?_ ?_⟩
  · rintro i σ G hi ⟨a, b, c, o4, o5, o6, o7, o8, o9, rfl, k0, hhp0, la, lb, lc⟩
    have hi18 : i < 18 := by omega
    refine ⟨_, rfl, _, _, rfl, rfl, .inl ⟨by decide, by decide⟩, _, _, rfl, rfl, ?_⟩
    refine ⟨fun σ G' => ∃ cell : Int, σ = [some (.ref cp), some (.int more), some (.ref rp), some (.ref hp), some (.int (0 + (i : Int))), some (.int cell), o6, o7, o8, o9, none] ∧ G' = G, ?_, ?_⟩
    · refine ⟨_, rfl, _, rfl, cp, _, rfl, .inl (k0.same.seq hS), _, _, rfl, rfl, _, rfl, ?_⟩
      refine ite2 (fun hb => ?_) (fun hb => ?_)
      · have hb' := of_decide_eq_true hb
        rw [hln] at hb'
        have hat : atI (ns.map V.int) (0 + (i : Int)) = some (.int (ns.getD i 0)) := by rw [Int.zero_add]; exact atI_nat (int_at (by omega))
        refine ⟨_, rfl, _, rfl, cp, _, _, _, rfl, rfl, k0.same.seq hS, hat, ?_⟩
        exact ⟨_, rfl, rfl⟩
      · exact ⟨_, rfl, rfl⟩
    rintro σ G ⟨cell, rfl, rfl⟩
    refine ⟨_, rfl, _, _, rfl, rfl, (by show (0 : Int) < 4; decide), _, _, rfl, rfl, ?_⟩
    refine ⟨_, rfl, _, _, rfl, rfl, ⟨by decide, by decide⟩, _, rfl, _, _, rfl, rfl, _, _, rfl, rfl, (by show (0 : Int) < 5; decide), _, _, rfl, rfl, ?_⟩
    refine ⟨fun σ G' => ∃ one other : Int, σ = [some (.ref cp), some (.int more), some (.ref rp), some (.ref hp), some (.int (0 + (i : Int))), some (.int cell), some (.int one), some (.int other), o8, o9, none] ∧ G' = G, ?_, ?_⟩
    · refine ⟨_, rfl, _, _, rfl, rfl, (by show (0 : Int) < 23; decide), rfl, _, rfl, ?_⟩
      refine ite2 (fun hb => ?_) (fun hb => ?_)
      · refine ⟨_, rfl, _, _, rfl, rfl, ?_⟩
        exact ⟨_, _, rfl, rfl⟩
      · exact ⟨_, _, rfl, rfl⟩
    rintro σ G ⟨one, other, rfl, rfl⟩
    refine ⟨_, rfl, hp, _, rfl, .inl (SqL.of hhp0), 2, (m.toNat : Int), congrArg (fun z : Nat => [V.int 2, V.int ((z : Nat) : Int)]) hhl, ⟨by omega, by omega, by omega, by omega⟩, ?_⟩
    refine comp_rangeN (lo := 2) (n := ((m.toNat : Int) - 2).toNat) (fun j ys H' => H' = G ∧ ∃ zs : List Int, ys = zs.map V.int ∧ zs.length = j) ⟨rfl, [], rfl, rfl⟩ ?_ ?_ ?_
    · rintro j ys G' hj ⟨rfl, zs, rfl, lz⟩
      exact lt_line (by rw [List.length_map]; omega)
    · rintro j ys G' hj ⟨rfl, zs, rfl, lz⟩
      refine ⟨_, rfl, _, _, rfl, rfl, ⟨by decide, by decide⟩, _, rfl, _, _, rfl, rfl, _, rfl, _, _, rfl, rfl, _, _, rfl, rfl, (by show (0 : Int) < 3; decide), rfl, ints_snoc lz⟩
    rintro ys G ⟨rfl, rest, rfl, lrest⟩ tp htp
    refine alloc_rd (upd _ tp _) rfl htp fun G1 e1 y1 => ?_
    have hrl : 2 + rest.length = m.toNat := by omega
    refine ⟨_, rfl, _, rfl, le_line (by show 2 ≤ _; decide), fun l4 hl4 => ?_⟩
    refine alloc_rd (upd _ l4 _) rfl hl4 fun G2 e2 y2 => ?_
    refine ⟨_, rfl, l4, tp, _, _, rfl, rfl, y2, e2 _ _ y1, le_line (by rw [List.length_map]; simp only [List.length_cons, List.length_nil]; omega), fun fp hfp => ?_⟩
    have k2 := k0.new (e1.trans e2)
    have nf := k2.fresh hfp
    refine alloc_rd (upd _ fp _) rfl hfp fun G3 e3 x9 => ?_
    replace x9 : G3 fp = some (.lst (([one, other] ++ rest).map V.int)) := by rw [x9, List.map_append]; rfl
    have k3 := k2.new e3
    have hp3 := (e1.trans (e2.trans e3)) _ _ hhp0
    have h3' : i % 3 = 0 ∨ i % 3 = 1 ∨ i % 3 = 2 := by omega
    rcases h3' with h3n | h3n | h3n
    · have h3 : (0 + (i : Int)) % 3 = 0 := by omega
      have at3 : atI [V.ref r0, V.ref r1, V.ref r2] ((0 + (i : Int)) % 3) = some (V.ref r0) := by rw [h3]; exact atI0
      refine ⟨_, rfl, _, rfl, _, _, rfl, rfl, (by show (0 : Int) < 3; decide), rp, _, _, _, rfl, rfl, SqL.of k3.top, at3, .inl ⟨rfl, _, SqL.of k3.h0.1⟩, _, rfl, _, rfl, _, rfl, le_line (by show 2 ≤ _; decide), fun u1 hu1 => ?_⟩
      refine alloc_rd (upd _ u1 _) rfl hu1 fun G4 m1' y4 => ?_
      refine ⟨_, rfl, le_line (by show 1 ≤ _; decide), fun u2 hu2 => ?_⟩
      refine alloc_rd (upd _ u2 _) rfl hu2 fun G5 m2' y5 => ?_
      refine ⟨le_line (by show 3 ≤ _; decide), fun u3 hu3 => ?_⟩
      refine alloc_rd (upd _ u3 _) rfl hu3 fun G6 m3' y6 => ?_
      have k6 := k3.new (m1'.trans (m2'.trans m3'))
      have hp6 := (m1'.trans (m2'.trans m3')) _ _ hp3
      refine ⟨_, rfl, _, _, rfl, rfl, (by show (0 : Int) < 3; decide), u3, _, _, _, rfl, rfl, SqL.of y6, by rw [h3]; exact atI0, r0, _, _, rfl, rfl, k6.h0.1, lt_line (by rw [List.length_map]; omega), ?_⟩
      refine ⟨_, _, _, _, _, _, _, _, _, rfl, k6.push0 (x := [one, other] ++ rest) ((m1'.trans (m2'.trans m3')) _ _ x9) nf (by simp; omega), by rw [upd_ne nh0]; exact hp6, by rw [List.length_append, List.length_singleton]; omega, by omega, by omega⟩
    · have h3 : (0 + (i : Int)) % 3 = 1 := by omega
      have at3 : atI [V.ref r0, V.ref r1, V.ref r2] ((0 + (i : Int)) % 3) = some (V.ref r1) := by rw [h3]; exact atI1
      refine ⟨_, rfl, _, rfl, _, _, rfl, rfl, (by show (0 : Int) < 3; decide), rp, _, _, _, rfl, rfl, SqL.of k3.top, at3, .inl ⟨rfl, _, SqL.of k3.h1.1⟩, _, rfl, _, rfl, _, rfl, le_line (by show 2 ≤ _; decide), fun u1 hu1 => ?_⟩
      refine alloc_rd (upd _ u1 _) rfl hu1 fun G4 m1' y4 => ?_
      refine ⟨_, rfl, le_line (by show 1 ≤ _; decide), fun u2 hu2 => ?_⟩
      refine alloc_rd (upd _ u2 _) rfl hu2 fun G5 m2' y5 => ?_
      refine ⟨le_line (by show 3 ≤ _; decide), fun u3 hu3 => ?_⟩
      refine alloc_rd (upd _ u3 _) rfl hu3 fun G6 m3' y6 => ?_
      have k6 := k3.new (m1'.trans (m2'.trans m3'))
      have hp6 := (m1'.trans (m2'.trans m3')) _ _ hp3
      refine ⟨_, rfl, _, _, rfl, rfl, (by show (0 : Int) < 3; decide), u3, _, _, _, rfl, rfl, SqL.of y6, by rw [h3]; exact atI1, r1, _, _, rfl, rfl, k6.h1.1, lt_line (by rw [List.length_map]; omega), ?_⟩
      refine ⟨_, _, _, _, _, _, _, _, _, rfl, k6.push1 (x := [other, one]) (m3' _ _ (m2' _ _ y4)) (k3.fresh hu1) rfl, by rw [upd_ne nh1]; exact hp6, by omega, by rw [List.length_append, List.length_singleton]; omega, by omega⟩
    · have h3 : (0 + (i : Int)) % 3 = 2 := by omega
      have at3 : atI [V.ref r0, V.ref r1, V.ref r2] ((0 + (i : Int)) % 3) = some (V.ref r2) := by rw [h3]; exact atI2
      refine ⟨_, rfl, _, rfl, _, _, rfl, rfl, (by show (0 : Int) < 3; decide), rp, _, _, _, rfl, rfl, SqL.of k3.top, at3, .inl ⟨rfl, _, SqL.of k3.h2.1⟩, _, rfl, _, rfl, _, rfl, le_line (by show 2 ≤ _; decide), fun u1 hu1 => ?_⟩
      refine alloc_rd (upd _ u1 _) rfl hu1 fun G4 m1' y4 => ?_
      refine ⟨_, rfl, le_line (by show 1 ≤ _; decide), fun u2 hu2 => ?_⟩
      refine alloc_rd (upd _ u2 _) rfl hu2 fun G5 m2' y5 => ?_
      refine ⟨le_line (by show 3 ≤ _; decide), fun u3 hu3 => ?_⟩
      refine alloc_rd (upd _ u3 _) rfl hu3 fun G6 m3' y6 => ?_
      have k6 := k3.new (m1'.trans (m2'.trans m3'))
      have hp6 := (m1'.trans (m2'.trans m3')) _ _ hp3
      refine ⟨_, rfl, _, _, rfl, rfl, (by show (0 : Int) < 3; decide), u3, _, _, _, rfl, rfl, SqL.of y6, by rw [h3]; exact atI2, r2, _, _, rfl, rfl, k6.h2.1, lt_line (by rw [List.length_map]; omega), ?_⟩
      refine ⟨_, _, _, _, _, _, _, _, _, rfl, k6.push2 (x := [one]) (m3' _ _ y5) ((k3.new m1').fresh hu2) rfl, by rw [upd_ne nh2]; exact hp6, by omega, by omega, by rw [List.length_append, List.length_singleton]; omega⟩
  rintro σ G ⟨a, b, c, o4, o5, o6, o7, o8, o9, rfl, k0, hh0, la, lb, lc⟩
  have la' : a.length ≤ 7 := by omega
  have lb' : b.length ≤ 7 := by omega
  have lc' : c.length ≤ 7 := by omega
  refine ⟨fun σ G' => ∃ (a : List (Addr × List Int)) (o4 : Option V), σ = [some (.ref cp), some (.int more), some (.ref rp), some (.ref hp), o4, o5, o6, o7, o8, o9, none] ∧ Stk H G' rp r0 r1 r2 a b c m.toNat ∧ G' hp = some (.lst ((letters.take m.toNat).map V.str)) ∧ a.length ≤ 60, ?_, ?_⟩
  · refine ⟨_, rfl, _, rfl, _, rfl, cp, _, rfl, k0.same.seq hS, fun l5 hl5 => ?_⟩
    rw [cut_map]
    refine alloc_rd (upd _ l5 _) rfl hl5 fun G1 e1 y1 => ?_
    refine ⟨l5, _, rfl, SqL.of y1, _, _, rfl, rfl, (by show (0 : Int) < 8; decide), rfl, _, rfl, ?_⟩
    have k1 := k0.new e1
    refine ite2 (fun hb => ?_) (fun hb => ?_)
    · refine ⟨_, rfl, more, rfl, by omega, by omega, for_range (lo := 0) (n := more.toNat) (fun i σ G' => ∃ (a : List (Addr × List Int)) (o4 : Option V), σ = [some (.ref cp), some (.int more), some (.ref rp), some (.ref hp), o4, o5, o6, o7, o8, o9, none] ∧ Stk H G' rp r0 r1 r2 a b c m.toNat ∧ G' hp = some (.lst ((letters.take m.toNat).map V.str)) ∧ a.length ≤ 7 + i) ⟨a, o4, rfl, k1, e1 _ _ hh0, la'⟩ ?_ ?_⟩
      · rintro i σ G2 hi ⟨a, o4, rfl, k2, hh2, la2⟩
        refine ⟨_, rfl, rp, _, _, _, rfl, rfl, SqL.of k2.top, atI0, .inl ⟨rfl, _, SqL.of k2.h0.1⟩, _, rfl, hp, _, rfl, .inl (SqL.of hh2), (m.toNat : Int), congrArg (fun z : Nat => [V.int ((z : Nat) : Int)]) hhl, by omega, by omega, ?_⟩
        refine comp_rangeN (lo := 0) (n := (m.toNat : Int).toNat) (fun j ys H' => H' = G2 ∧ ∃ zs : List Int, ys = zs.map V.int ∧ zs.length = j) ⟨rfl, [], rfl, rfl⟩ ?_ ?_ ?_
        · rintro j ys G' hj ⟨rfl, zs, rfl, lz⟩
          exact lt_line (by rw [List.length_map]; omega)
        · rintro j ys G' hj ⟨rfl, zs, rfl, lz⟩
          refine ⟨_, rfl, _, rfl, _, _, rfl, rfl, _, _, rfl, rfl, (by show (0 : Int) < 4; decide), _, _, rfl, rfl, rfl, ints_snoc lz⟩
        rintro ys G' ⟨rfl, zs, rfl, lz⟩ tp htp
        have nf := k2.fresh htp
        refine alloc_rd (upd _ tp _) rfl htp fun G3 e3 y3 => ?_
        have k3 := k2.new e3
        refine ⟨r0, _, _, rfl, rfl, k3.h0.1, lt_line (by rw [List.length_map]; omega), ?_⟩
        exact ⟨_, _, rfl, k3.push0 y3 nf (by rw [lz]; rfl), by rw [upd_ne nh0]; exact e3 _ _ hh2, by rw [List.length_append, List.length_singleton]; omega⟩
      · rintro σ G2 ⟨a, o4, rfl, k2, hh2, la2⟩
        exact ⟨a, o4, rfl, k2, hh2, by omega⟩
    · exact ⟨a, o4, rfl, k1, e1 _ _ hh0, by omega⟩
  rintro σ G1 ⟨a, o4, rfl, k1, hh1, la1⟩
  refine ⟨fun σ G' => ∃ (s0 s1 s2 : Addr) (a b c : List (Addr × List Int)), σ = [some (.ref cp), some (.int more), some (.ref rp), some (.ref hp), o4, o5, o6, o7, o8, o9, none] ∧ Same H G' ∧ G' rp = some (.lst [.ref s0, .ref s1, .ref s2]) ∧ G' hp = some (.lst ((letters.take m.toNat).map V.str)) ∧ RowsAt G' s0 a ∧ RowsAt G' s1 b ∧ RowsAt G' s2 c ∧
    (∀ r ∈ a, r.2.length = m.toNat) ∧ (∀ r ∈ b, r.2.length = 2) ∧ (∀ r ∈ c, r.2.length = 1) ∧ a.length ≤ 60 ∧ b.length ≤ 10 ∧ c.length ≤ 10, ?_, ?_⟩
  · have asIs : ∃ (s0 s1 s2 : Addr) (a b c : List (Addr × List Int)), ([some (.ref cp), some (.int more), some (.ref rp), some (.ref hp), o4, o5, o6, o7, o8, o9, none] : List (Option V)) = [some (.ref cp), some (.int more), some (.ref rp), some (.ref hp), o4, o5, o6, o7, o8, o9, none] ∧ Same H G1 ∧ G1 rp = some (.lst [.ref s0, .ref s1, .ref s2]) ∧ G1 hp = some (.lst ((letters.take m.toNat).map V.str)) ∧ RowsAt G1 s0 a ∧ RowsAt G1 s1 b ∧ RowsAt G1 s2 c ∧
      (∀ r ∈ a, r.2.length = m.toNat) ∧ (∀ r ∈ b, r.2.length = 2) ∧ (∀ r ∈ c, r.2.length = 1) ∧ a.length ≤ 60 ∧ b.length ≤ 10 ∧ c.length ≤ 10 :=
      ⟨r0, r1, r2, a, b, c, rfl, k1.same, k1.top, hh1, k1.h0, k1.h1, k1.h2, k1.w0, k1.w1, k1.w2, la1, by omega, by omega⟩
    refine els_rd (iteF asIs) (fun els => ?_)
    refine ⟨_, rfl, cp, _, rfl, .inl (k1.same.seq hS), _, _, rfl, rfl, _, rfl, ?_⟩
    refine ite2 (fun hb => ?_) (fun hb => els)
    have hb' := of_decide_eq_true hb
    rw [hln] at hb'
    have hpos : 0 < ns.length := by omega
    have at0 : atI (ns.map V.int) 0 = some (.int (ns.getD 0 0)) := atI_nat (j := 0) (int_at hpos)
    have atl : atI (ns.map V.int) (-1) = some (.int (ns.getD (ns.length - 1) 0)) := last_at hpos
    refine ⟨_, rfl, cp, _, _, _, rfl, rfl, k1.same.seq hS, at0, _, _, rfl, rfl, (by show (0 : Int) < 9; decide), rfl, _, rfl, ?_⟩
    refine ite2 (fun hc => ?_) (fun hc => els)
    refine ⟨z0, fun ep hep => ?_⟩
    refine alloc_rd (upd _ ep _) rfl hep fun G2 e2 y2 => ?_
    generalize ns.getD (ns.length - 1) 0 = lst at atl
    refine ⟨_, rfl, _, rfl, _, rfl, cp, _, _, _, rfl, rfl, (k1.same.trans e2).seq hS, atl, _, _, rfl, rfl, (by show (0 : Int) < 3; decide), ?_⟩
    have k2 := k1.new e2
    have nep : ep ≠ rp := (ne_of_none k1.top hep).symm
    have frp : H rp = none := s3.free hrp
    have h3' : lst % 3 = 0 ∨ lst % 3 = 1 ∨ lst % 3 = 2 := by omega
    have kp : ∀ {q : Addr} {rs : List (Addr × List Int)} {o : HO}, RowsAt G2 q rs → q ≠ rp → RowsAt (upd G2 rp o) q rs := fun {q rs o} h n => h.kp kp_upd n fun r m z => by
      have h1 := (h.2 r m).2
      rw [z, k2.top] at h1
      have h2 := congrArg (fun x => match x with | some (HO.lst xs) => xs | _ => []) h1
      have h3 : [V.ref r0, V.ref r1, V.ref r2] = r.2.map V.int := h2
      cases hr2 : r.2 with
      | nil => rw [hr2] at h3; cases h3
      | cons x xs => rw [hr2] at h3; cases h3
    rcases h3' with h3' | h3' | h3'
    · refine ⟨rp, _, _, 0, rfl, rfl, k2.top, by rw [h3']; rfl, ?_⟩
      exact ⟨ep, r1, r2, [], b, c, rfl, (k2.same).put frp, upd_same, by rw [upd_ne nhp]; exact e2 _ _ hh1, kp (rows_nil y2) nep, kp k2.h1 k2.np1.symm, kp k2.h2 k2.np2.symm, fun _ z => (by cases z), k2.w1, k2.w2, Nat.zero_le _, by omega, by omega⟩
    · refine ⟨rp, _, _, 1, rfl, rfl, k2.top, by rw [h3']; rfl, ?_⟩
      exact ⟨r0, ep, r2, a, [], c, rfl, (k2.same).put frp, upd_same, by rw [upd_ne nhp]; exact e2 _ _ hh1, kp k2.h0 k2.np0.symm, kp (rows_nil y2) nep, kp k2.h2 k2.np2.symm, k2.w0, fun _ z => (by cases z), k2.w2, la1, Nat.zero_le _, by omega⟩
    · refine ⟨rp, _, _, 2, rfl, rfl, k2.top, by rw [h3']; rfl, ?_⟩
      exact ⟨r0, r1, ep, a, b, [], rfl, (k2.same).put frp, upd_same, by rw [upd_ne nhp]; exact e2 _ _ hh1, kp k2.h0 k2.np0.symm, kp k2.h1 k2.np1.symm, kp (rows_nil y2) nep, k2.w0, k2.w1, fun _ z => (by cases z), la1, by omega, Nat.zero_le _⟩
  rintro σ G2 ⟨s0, s1, s2, a, b, c, rfl, sm2, top2, hh2, j0, j1, j2, w0, w1, w2, c0, c1, c2⟩
  refine ⟨_, rfl, _, rfl, rp, _, _, _, rfl, rfl, SqL.of top2, atI0, le_line (by show 3 ≤ _; decide), fun t0 ht0 => ?_⟩
  refine alloc_rd (upd _ t0 _) rfl ht0 fun G3 e3 y3 => ?_
  refine ⟨le_line (by show 2 ≤ _; decide), fun wl hwl => ?_⟩
  refine alloc_rd (upd _ wl _) rfl hwl fun G4 e4 y4 => ?_
  refine ⟨_, rfl, rp, _, _, _, rfl, rfl, SqL.of (e4 _ _ (e3 _ _ top2)), atI1, le_line (by show 3 ≤ _; decide), fun t1 ht1 => ?_⟩
  refine alloc_rd (upd _ t1 _) rfl ht1 fun G5 e5 y5 => ?_
  refine ⟨le_line (by show 2 ≤ _; decide), fun mp hmp => ?_⟩
  refine alloc_rd (upd _ mp _) rfl hmp fun G6 e6 y6 => ?_
  have e26 := e3.trans (e4.trans (e5.trans e6))
  refine ⟨3, rfl, by decide, by decide, ?_⟩
  refine comp_rangeN (lo := 0) (n := (3 : Int).toNat) (fun i ys H' => Same G6 H' ∧ ∃ qs : List (Addr × List Int), ys = refs qs ∧ qs.length = i ∧ (∀ r ∈ qs, H' r.1 = some (.lst (r.2.map V.int)) ∧ r.2.length = m.toNat)) ⟨Same.refl _, [], rfl, rfl, fun _ z => (by cases z)⟩ ?_ ?_ ?_
  · rintro i ys G' hi ⟨sm', qs, rfl, lq, hq⟩
    exact lt_line (by rw [List.length_map, lq]; exact Nat.le_trans hi (by decide))
  · rintro i ys G' hi ⟨sm', qs, rfl, lq, hq⟩
    have hh6 := sm' _ _ (e26 _ _ hh2)
    refine ⟨_, rfl, hp, _, rfl, .inl (SqL.of hh6), (m.toNat : Int), congrArg (fun z : Nat => [V.int ((z : Nat) : Int)]) hhl, by omega, by omega, ?_⟩
    refine comp_rangeN (lo := 0) (n := (m.toNat : Int).toNat) (fun j ys H' => H' = G' ∧ ∃ zs : List Int, ys = zs.map V.int ∧ zs.length = j) ⟨rfl, [], rfl, rfl⟩ ?_ ?_ ?_
    · rintro j ys G' hj ⟨rfl, zs, rfl, lz⟩
      exact lt_line (by rw [List.length_map]; omega)
    · rintro j ys G' hj ⟨rfl, zs, rfl, lz⟩
      refine ⟨_, rfl, _, _, rfl, rfl, .inl ⟨by decide, by decide⟩, _, rfl, _, _, rfl, rfl, _, _, rfl, rfl, (by show (0 : Int) < 5; decide), _, _, rfl, rfl, rfl, ints_snoc lz⟩
    · rintro ys G7 ⟨rfl, zs, rfl, lz⟩ lp hlp
      have n8 := same_new hlp (.lst (zs.map V.int))
      refine ⟨sm'.trans n8, qs ++ [(lp, zs)], by simp [refs], by rw [List.length_append, lq]; rfl, fun r mm => ?_⟩
      rcases List.mem_append.mp mm with mm | mm
      · exact ⟨n8 _ _ (hq r mm).1, (hq r mm).2⟩
      · rw [List.mem_singleton.mp mm]
        exact ⟨upd_same, by rw [lz]; rfl⟩
  rintro ys G7 ⟨s67, qs, rfl, lq, hq⟩ op hop
  refine alloc_rd (upd _ op _) rfl hop fun G8 e8 y8 => ?_
  have e68 := s67.trans e8
  have e28 := e26.trans e68
  have ro := rows_new hop e8 y8 fun r mm => (hq r mm).1
  refine ⟨_, rfl, le_line (by show 1 ≤ _; decide), fun xl hxl => ?_⟩
  refine alloc_rd (upd _ xl _) rfl hxl fun G9 e9 y9 => ?_
  refine ⟨_, rfl, rp, _, _, _, rfl, rfl, SqL.of (e9 _ _ (e28 _ _ top2)), atI2, le_line (by show 3 ≤ _; decide), fun t2 ht2 => ?_⟩
  refine alloc_rd (upd _ t2 _) rfl ht2 fun G10 e10 y10 => ?_
  refine ⟨_, rfl, hp, _, rfl, .inl (SqL.of (e10 _ _ (e9 _ _ (e28 _ _ hh2)))), fun cl hcl => ?_⟩
  refine alloc_rd (upd _ cl _) rfl hcl fun G11 e11 y11 => ?_
  refine ⟨_, rfl, le_line (by show 3 ≤ _; decide), fun t3 ht3 => ?_⟩
  refine alloc_rd (upd _ t3 _) rfl ht3 fun G12 e12 y12 => ?_
  refine ⟨le_line (by show 2 ≤ _; decide), fun bp hbp => ?_⟩
  refine alloc_rd (upd _ bp _) rfl hbp fun G13 e13 y13 => ?_
  have e813 := e9.trans (e10.trans (e11.trans (e12.trans e13)))
  refine ⟨mp, bp, _, _, rfl, rfl, e813 _ _ (e68 _ _ y6), y13, le_line (by show 4 ≤ _; decide), fun rpp hrpp => ?_⟩
  refine alloc_rd (upd _ rpp _) rfl hrpp fun G14 e14 y14 => ?_
  have e814 := e813.trans e14
  have e214 := e28.trans e814
  have tok := tabs_ok (m := m.toNat) (r0 := a.map (·.2)) (r1 := b.map (·.2)) (r2 := c.map (·.2)) (r3 := qs.map (·.2)) (by omega) (by omega) (fun r mm => by obtain ⟨x, hx, rfl⟩ := List.mem_map.mp mm; rw [hl12]; exact w0 x hx) (fun r mm => by obtain ⟨x, hx, rfl⟩ := List.mem_map.mp mm; exact w1 x hx)
    (fun r mm => by obtain ⟨x, hx, rfl⟩ := List.mem_map.mp mm; exact w2 x hx) (fun r mm => by obtain ⟨x, hx, rfl⟩ := List.mem_map.mp mm; rw [hl12]; exact (hq x hx).2) (by rw [List.length_map]; exact c0) (by rw [List.length_map]; exact c1) (by rw [List.length_map]; exact c2) (by rw [List.length_map, lq]; rfl)
  refine fin rpp _ _ _ (sm2.trans e214) tok ⟨.ref t0, .ref t1, .ref t2, .ref t3, y14, ⟨t0, hp, s0, a, rfl, ?_, ?_, j0.same e214, ?_⟩, ⟨t1, wl, s1, b, rfl, ?_, ?_, j1.same e214, ?_⟩, ⟨t2, xl, s2, c, rfl, ?_, ?_, j2.same e214, ?_⟩, ⟨t3, cl, op, qs, rfl, ?_, ?_, ro.same e814, ?_⟩⟩
  · exact (e4.trans (e5.trans (e6.trans (e68.trans e814)))) _ _ y3
  · rw [show thOf (letters.take m.toNat) "t" = letters.take m.toNat by unfold thOf; rw [if_neg (by decide +kernel), if_neg (by decide +kernel)]]
    exact e214 _ _ hh2
  · unfold trOf; rw [if_pos rfl]
  · exact (e6.trans (e68.trans e814)) _ _ y5
  · rw [show thOf (letters.take m.toNat) "tuvtuvtuvw" = wHeads by unfold thOf; rw [if_pos rfl]]
    exact (e5.trans (e6.trans (e68.trans e814))) _ _ y4
  · unfold trOf; rw [if_neg (by decide +kernel), if_pos rfl]
  · exact (e11.trans (e12.trans (e13.trans e14))) _ _ y10
  · rw [show thOf (letters.take m.toNat) "tuvtuvtuvx" = (["e"] : List Str) by unfold thOf; rw [if_neg (by decide +kernel), if_pos rfl]]
    exact (e10.trans (e11.trans (e12.trans (e13.trans e14)))) _ _ y9
  · unfold trOf; rw [if_neg (by decide +kernel), if_neg (by decide +kernel), if_pos rfl]
  · exact (e13.trans e14) _ _ y12
  · rw [show thOf (letters.take m.toNat) "tuvz" = letters.take m.toNat by unfold thOf; rw [if_neg (by decide +kernel), if_neg (by decide +kernel)]]
    exact (e12.trans (e13.trans e14)) _ _ y11
  · unfold trOf; rw [if_neg (by decide +kernel), if_neg (by decide +kernel), if_neg (by decide +kernel)]
def spWhole : Sp := fun vs H Q _ => ∃ i : Int, vs = [.int i] ∧ Q (.bl true) H
theorem sc__law_whole : FnScope ["_law_found"] ["_law_found"] (defScope s__law_whole) := ⟨rfl, rfl, rfl, by decide +kernel, rfl, by decide +kernel, by decide +kernel⟩
theorem ok__law_whole (F : Fun K "_law_whole" "_law_whole" s__law_whole f fd) (T : Txt K mg) : FnOk P w K mg base CX0 1 f fd ["_law_found"] spWhole := by
  refine F.ok sc__law_whole (fun vs H Q E h => ?_) (fun cdv A outer s H vs Q E hr h => ?_)
  · obtain ⟨i, rfl, _⟩ := h
    rfl
  obtain ⟨i, rfl, q⟩ := h
  refine ⟨_, (pss_one (ps_ret (pe_andP (pe_callB call_isinst rfl T.isinstance PyProof.Rows.boot_isinstance (pa_conN (pv 0) (pa_conN (pe_bltn (v := .ty "int") rfl T.int PyProof.Rows.boot_int rfl) pa_nil))) (pe_not (pe_callB call_isinst rfl T.isinstance PyProof.Rows.boot_isinstance (pa_conN (pv 0) (pa_conN (pe_bltn (v := .ty "bool") rfl T.bool PyProof.Rows.boot_bool rfl) pa_nil))))))), ?_⟩
  exact ⟨_, rfl, _, _, _, _, rfl, TyOf.int i, kit_same, _, rfl, _, ⟨_, rfl, _, _, _, _, rfl, TyOf.int i, kit_int_bool, _, rfl, rfl, rfl⟩, q⟩
mutual
inductive Tr where
  | s (x : Str) | i (n : Int) | t (l : Trs)
inductive Trs where
  | nil | cons (a : Tr) (r : Trs)
end
mutual
def TrAt (H : Hp) : Tr → V → Prop
  | .s x, v => v = .str x
  | .i n, v => v = .int n
  | .t l, v => ∃ p vs, v = .ref p ∧ H p = some (.tup vs) ∧ TrsAt H l vs
def TrsAt (H : Hp) : Trs → List V → Prop
  | .nil, vs => vs = []
  | .cons a r, vs => ∃ v ws, vs = v :: ws ∧ TrAt H a v ∧ TrsAt H r ws
end
mutual
def Tr.size : Tr → Nat
  | .s _ => 1
  | .i _ => 1
  | .t l => 1 + l.size
def Trs.size : Trs → Nat
  | .nil => 0
  | .cons a r => a.size + r.size
end
def Trs.list : Trs → List Tr
  | .nil => []
  | .cons a r => a :: r.list
mutual
theorem TrAt.mono {H H' : Hp} (m : ∀ b xs, H b = some (.tup xs) → H' b = some (.tup xs)) : ∀ {t : Tr} {v : V}, TrAt H t v → TrAt H' t v
  | .s _, _, h => by simp only [TrAt] at h ⊢; exact h
  | .i _, _, h => by simp only [TrAt] at h ⊢; exact h
  | .t l, _, h => by
    simp only [TrAt] at h ⊢
    obtain ⟨p, vs, e, h1, h2⟩ := h
    exact ⟨p, vs, e, m _ _ h1, TrsAt.mono m h2⟩
theorem TrsAt.mono {H H' : Hp} (m : ∀ b xs, H b = some (.tup xs) → H' b = some (.tup xs)) : ∀ {l : Trs} {vs : List V}, TrsAt H l vs → TrsAt H' l vs
  | .nil, _, h => by simp only [TrsAt] at h ⊢; exact h
  | .cons a r, _, h => by
    simp only [TrsAt] at h ⊢
    obtain ⟨v, ws, e, h1, h2⟩ := h
    exact ⟨v, ws, e, TrAt.mono m h1, TrsAt.mono m h2⟩
end
theorem TrAt.same {H H' : Hp} {t : Tr} {v : V} (h : TrAt H t v) (e : Same H H') : TrAt H' t v := h.mono fun b xs z => e _ _ z
theorem TrsAt.len {H : Hp} : ∀ {l : Trs} {vs : List V}, TrsAt H l vs → vs.length = l.list.length
  | .nil, _, h => by simp only [TrsAt] at h; rw [h]; rfl
  | .cons a r, _, h => by
    simp only [TrsAt] at h
    obtain ⟨v, ws, rfl, _, h2⟩ := h
    have := TrsAt.len h2
    simp only [Trs.list, List.length_cons, this]
theorem TrsAt.get {H : Hp} : ∀ {l : Trs} {vs : List V} {k : Nat} {t : Tr}, TrsAt H l vs → l.list[k]? = some t → ∃ v, vs[k]? = some v ∧ TrAt H t v
  | .nil, _, _, _, h, e => by simp [Trs.list] at e
  | .cons a r, _, 0, t, h, e => by
    simp only [TrsAt] at h
    obtain ⟨v, ws, rfl, h1, _⟩ := h
    have e' : some a = some t := e
    cases e'
    exact ⟨v, rfl, h1⟩
  | .cons a r, _, k + 1, t, h, e => by
    simp only [TrsAt] at h
    obtain ⟨v, ws, rfl, _, h2⟩ := h
    exact TrsAt.get (k := k) h2 e
theorem Trs.sum_size : ∀ l : Trs, (l.list.map Tr.size).sum = l.size
  | .nil => rfl
  | .cons a r => by
    simp only [Trs.list, List.map_cons, List.sum_cons, Trs.size, Trs.sum_size r]
theorem Tr.pos : ∀ t : Tr, 1 ≤ t.size
  | .s _ => by simp [Tr.size]
  | .i _ => by simp [Tr.size]
  | .t l => by simp only [Tr.size]; omega
abbrev It4 := Addr × V × V × Tr
def sz4 (its : List It4) : Nat := (its.map fun it => it.2.2.2.size).sum
theorem sz4_len (its : List It4) : its.length ≤ sz4 its := by
  unfold sz4
  induction its with
  | nil => exact Nat.le_refl _
  | cons a r ih =>
    rw [List.map_cons, List.sum_cons, List.length_cons]
    have := Tr.pos a.2.2.2
    omega
theorem sz4_snoc (its : List It4) (x : It4) : sz4 (its ++ [x]) = sz4 its + x.2.2.2.size := by
  unfold sz4
  rw [List.map_append, List.sum_append]
  simp
def Two (H : Hp) (it : It4) : Prop := H it.1 = some (.tup [it.2.1, it.2.2.1]) ∧ TrAt H it.2.2.2 it.2.1 ∧ TrAt H it.2.2.2 it.2.2.1
theorem Two.mono {H H' : Hp} (m : ∀ b xs, H b = some (.tup xs) → H' b = some (.tup xs)) {it : It4} (h : Two H it) : Two H' it := ⟨m _ _ h.1, h.2.1.mono m, h.2.2.mono m⟩
theorem tup_upd {H : Hp} {l : Addr} {xs : List V} {o : HO} (h : H l = some (.lst xs)) : ∀ b ys, H b = some (.tup ys) → upd H l o b = some (.tup ys) := fun b ys e => by
  rw [upd_ne (ne_of e h (by intro z; cases z))]
  exact e
def spLike (K : PySem.W.Frag) : Sp := fun vs H Q _ => ∃ (x y : V) (t : Tr), vs = [x, y] ∧ TrAt H t x ∧ TrAt H t y ∧ t.size ≤ 900000 ∧ ∀ H', Same H H' → Q (.bl true) H'
theorem sc__law_like : FnScope ["_law_found", "_law_due", "_law_todo", "_law_pair", "_law_k"] ["_law_found", "_law_due"] (defScope s__law_like) := ⟨rfl, rfl, rfl, by decide +kernel, rfl, by decide +kernel, by decide +kernel⟩
theorem ok__law_like (F : Fun K "_law_like" "_law_like" s__law_like f fd) (T : Txt K mg) (C_law_whole : Kn P w K mg base 1 "_law_whole" ["_law_found"] spWhole) : FnOk P w K mg base CX0 2 f fd ["_law_found", "_law_due"] (spLike K) := by
  refine F.ok sc__law_like (fun vs H Q E h => ?_) (fun cdv A outer s H vs Q E hr h => ?_)
  · obtain ⟨x, y, t, rfl, _⟩ := h
    rfl
  obtain ⟨x, y, t, rfl, hx, hy, hsz, q⟩ := h
  have hu := hu_of hr
  refine ⟨_, (pss_cons (ps_set (i := 2) sc__law_like.nd rfl (Or.inl rfl) (pe_lst (pa_conT (pe_tup (pa_conN (pv 0) (pa_conN (pv 1) pa_nil))) pa_nil)))
    (pss_cons (ps_while PassesOwn.never (pt_cmpR (op_neNil hu) (pv 2) (pe_lst pa_nil) (nomark _))
      (pss_cons (ps_set (i := 3) sc__law_like.nd rfl (Or.inl rfl) (pe_bm0 PySem.F.plainAttrs_list PySem.F.slot_list_pop PySem.F.type_list_pop mt_pop (pv 2)))
      (pss_one (ps_if (pt_val (pe_callB call_isinst rfl T.isinstance PyProof.Rows.boot_isinstance (pa_conS (pe_ix ix_tup (pv 3) pe_int (fun _ _ => rfl)) (pa_conN (pe_bltn (v := .ty "tuple") rfl T.tuple PyProof.Rows.boot_tuple rfl) pa_nil))))
        (pss_cons (ps_if (pt_orP (pt_not (pt_val (pe_callB call_isinst rfl T.isinstance PyProof.Rows.boot_isinstance (pa_conS (pe_ix ix_tup (pv 3) pe_int (fun _ _ => rfl)) (pa_conN (pe_bltn (v := .ty "tuple") rfl T.tuple PyProof.Rows.boot_tuple rfl) pa_nil))))) (pt_cmpR op_ne (pe_callB call_len_seq rfl T.len PySem.boot_len (pa_conS (pe_ix ix_tup (pv 3) pe_int (fun _ _ => rfl)) pa_nil)) (pe_callB call_len_seq rfl T.len PySem.boot_len (pa_conS (pe_ix ix_tup (pv 3) pe_int (fun _ _ => rfl)) pa_nil)) (nomark _)))
          (pss_one (ps_ret pe_bl))
          pss_nil)
        (pss_one (ps_for PassesOwn.never rfl (pi_range1 rfl T.range (pa_conK (pe_callB call_len_seq rfl T.len PySem.boot_len (pa_conS (pe_ix ix_tup (pv 3) pe_int (fun _ _ => rfl)) pa_nil)) pa_nil)) (pg_name (i := 4) sc__law_like.nd rfl (Or.inl rfl))
          (pss_one (ps_expr (pe_bm PySem.F.plainAttrs_list PySem.F.slot_list_append PySem.F.type_list_append mt_append (pv 2) (pa_conT (pe_tup (pa_conS (pe_ix ix_tup (pe_ix ix_tup (pv 3) pe_int (fun _ _ => rfl)) (pv 4) (fun _ _ => rfl)) (pa_conS (pe_ix ix_tup (pe_ix ix_tup (pv 3) pe_int (fun _ _ => rfl)) (pv 4) (fun _ _ => rfl)) pa_nil))) pa_nil)))))))
        (pss_one (ps_if (pt_val (pe_callB call_isinst rfl T.isinstance PyProof.Rows.boot_isinstance (pa_conS (pe_ix ix_tup (pv 3) pe_int (fun _ _ => rfl)) (pa_conN (pe_bltn (v := .ty "str") rfl T.str PyProof.Rows.boot_str rfl) pa_nil))))
          (pss_one (ps_if (pt_orP (pt_not (pt_val (pe_callB call_isinst rfl T.isinstance PyProof.Rows.boot_isinstance (pa_conS (pe_ix ix_tup (pv 3) pe_int (fun _ _ => rfl)) (pa_conN (pe_bltn (v := .ty "str") rfl T.str PyProof.Rows.boot_str rfl) pa_nil))))) (pt_cmpR op_ne (pe_ix ix_tup (pv 3) pe_int (fun _ _ => rfl)) (pe_ix ix_tup (pv 3) pe_int (fun _ _ => rfl)) (nomark _)))
            (pss_one (ps_ret pe_bl))
            pss_nil))
          (pss_one (ps_if (pt_orP (pt_not (pt_val (pe_callF C_law_whole (hr.mono (by first | decide | omega)) rfl (pa_conS (pe_ix ix_tup (pv 3) pe_int (fun _ _ => rfl)) pa_nil)))) (pt_cmpR op_ne (pe_ix ix_tup (pv 3) pe_int (fun _ _ => rfl)) (pe_ix ix_tup (pv 3) pe_int (fun _ _ => rfl)) (nomark _)))
            (pss_one (ps_ret pe_bl))
            pss_nil))))))))
    (pss_one (ps_ret pe_bl)))), ?_⟩
  refine ⟨_, rfl, _, rfl, le_line (by show 2 ≤ _; decide), fun pa hpa => ?_⟩
  refine alloc_rd (upd _ pa _) rfl hpa fun H1 n1 x1 => ?_
  refine ⟨le_line (by show 1 ≤ _; decide), fun tp htp => ?_⟩
  have ftp : H tp = none := n1.free htp
  refine alloc_rd (upd _ tp _) rfl htp fun H2 n2 x2 => ?_
  have s2 := n1.trans n2
  refine while_w (fun m σ H' => ∃ (its : List It4) (o3 o4 : Option V), m = sz4 its ∧ σ = [some x, some y, some (.ref tp), o3, o4] ∧ Same H H' ∧ H' tp = some (.lst (its.map fun it => V.ref it.1)) ∧ (∀ it ∈ its, Two H' it) ∧ sz4 its ≤ 900000) (sz4 [(pa, x, y, t)]) ⟨[(pa, x, y, t)], none, none, rfl, rfl, s2, x2, fun it m => by rw [List.mem_singleton.mp m]; exact ⟨n2 _ _ x1, hx.same s2, hy.same s2⟩, by show (List.map _ [_]).sum ≤ _; simpa using hsz⟩ ?_
  rintro m σ H3 ⟨its, o3, o4, rfl, rfl, s3, h3, hit, hz⟩
  refine ⟨_, rfl, le_line (by show 0 ≤ _; decide), fun ep hep => ?_⟩
  have nep : ep ≠ tp := (ne_of_none h3 hep).symm
  refine alloc_rd (upd _ ep _) rfl hep fun H4 n4 x4 => ?_
  have h4 := n4 _ _ h3
  have s4 := s3.trans n4
  refine ⟨tp, ep, _, rfl, rfl, SqL.of h4, SqL.of x4, _, rfl, ?_⟩
  refine ite2 (fun c => ?_) (fun c => ?_)
  · refine ⟨_, fun σ' H' z => z, ?_⟩
    have hne : its ≠ [] := fun z => by rw [z] at c; simp at c
    obtain ⟨gs, g, rfl⟩ := snoc_of hne
    obtain ⟨ga, gx, gy, gt⟩ := g
    rw [sz4_snoc] at hz
    have e0 : ((gs ++ [(ga, gx, gy, gt)]).map fun it => V.ref it.1) = (gs.map fun it => V.ref it.1) ++ [V.ref ga] := by rw [List.map_append]; rfl
    rw [e0] at h4
    refine ⟨_, rfl, .inl ⟨rfl, _, SqL.of h4⟩, tp, _, V.ref ga, rfl, rfl, h4, last_of _ _, ?_⟩
    rw [List.dropLast_concat]
    have tm := tup_upd (o := .lst (gs.map fun it => V.ref it.1)) h4
    have hit5 : ∀ it ∈ gs ++ [(ga, gx, gy, gt)], Two (upd H4 tp (.lst (gs.map fun it => V.ref it.1))) it := fun it mm => ((hit it mm).mono fun b xs z => n4 _ _ z).mono tm
    have s5 : Same H (upd H4 tp (.lst (gs.map fun it => V.ref it.1))) := s4.put ftp
    have h5 : upd H4 tp (.lst (gs.map fun it => V.ref it.1)) tp = some (.lst (gs.map fun it => V.ref it.1)) := upd_same
    generalize upd H4 tp (.lst (gs.map fun it => V.ref it.1)) = H5 at hit5 s5 h5 ⊢
    have g5 : Two H5 (ga, gx, gy, gt) := hit5 _ (List.mem_append_right _ (List.mem_singleton.mpr rfl))
    obtain ⟨gp, gx5, gy5⟩ := g5
    replace gp : H5 ga = some (.tup [gx, gy]) := gp
    replace gx5 : TrAt H5 gt gx := gx5
    replace gy5 : TrAt H5 gt gy := gy5
    have hgs : ∀ it ∈ gs, Two H5 it := fun it mm => hit5 it (List.mem_append_left _ mm)
    have lz : sz4 (gs ++ [(ga, gx, gy, gt)]) = sz4 gs + gt.size := sz4_snoc _ _
    replace hz : sz4 gs + gt.size ≤ 900000 := hz
    cases gt with
    | s z =>
      simp only [TrAt] at gx5 gy5
      subst gx5 gy5
      refine ⟨_, rfl, ga, _, _, _, rfl, rfl, SqT.of gp, atI1, _, _, _, _, rfl, TyOf.str z, kit_str_tuple, _, rfl, ?_⟩
      refine ifF rfl ?_
      refine ⟨_, rfl, ga, _, _, _, rfl, rfl, SqT.of gp, atI1, _, _, _, _, rfl, TyOf.str z, kit_same, _, rfl, ?_⟩
      refine ifT rfl ?_
      refine ⟨_, rfl, ga, _, _, _, rfl, rfl, SqT.of gp, atI0, _, _, _, _, rfl, TyOf.str z, kit_same, _, rfl, _, ⟨_, rfl, ga, _, _, _, rfl, rfl, SqT.of gp, atI0, _, rfl, ga, _, _, _, rfl, rfl, SqT.of gp, atI1, rfl, _, rfl, rfl, rfl⟩, ?_⟩
      refine ifF (by simp) ?_
      exact ⟨_, by rw [lz]; simp only [Tr.size]; omega, gs, _, _, rfl, rfl, s5, h5, hgs, by omega⟩
    | i z =>
      simp only [TrAt] at gx5 gy5
      subst gx5 gy5
      refine ⟨_, rfl, ga, _, _, _, rfl, rfl, SqT.of gp, atI1, _, _, _, _, rfl, TyOf.int z, kit_int_tuple, _, rfl, ?_⟩
      refine ifF rfl ?_
      refine ⟨_, rfl, ga, _, _, _, rfl, rfl, SqT.of gp, atI1, _, _, _, _, rfl, TyOf.int z, kit_int_str, _, rfl, ?_⟩
      refine ifF rfl ?_
      refine ⟨_, rfl, ga, _, _, _, rfl, rfl, SqT.of gp, atI0, z, rfl, _, rfl, _, ⟨_, rfl, ga, _, _, _, rfl, rfl, SqT.of gp, atI0, _, rfl, ga, _, _, _, rfl, rfl, SqT.of gp, atI1, rfl, _, rfl, rfl, rfl⟩, ?_⟩
      refine ifF (by simp) ?_
      exact ⟨_, by rw [lz]; simp only [Tr.size]; omega, gs, _, _, rfl, rfl, s5, h5, hgs, by omega⟩
    | t l =>
      simp only [TrAt] at gx5 gy5
      obtain ⟨xp, xs, rfl, hxp, hxs⟩ := gx5
      obtain ⟨yp, ys, rfl, hyp, hys⟩ := gy5
      have lx := hxs.len
      have ly := hys.len
      have ll : l.list.length ≤ l.size := by
        rw [← Trs.sum_size]
        have : ∀ L : List Tr, L.length ≤ (L.map Tr.size).sum := fun L => by
          induction L with
          | nil => exact Nat.le_refl _
          | cons a r ih =>
            rw [List.map_cons, List.sum_cons, List.length_cons]
            have := Tr.pos a
            omega
        exact this _
      have hz' : sz4 gs + (1 + l.size) ≤ 900000 := by simp only [Tr.size] at hz; exact hz
      refine ⟨_, rfl, ga, _, _, _, rfl, rfl, SqT.of gp, atI1, _, _, _, _, rfl, TyOf.tup hyp, kit_same, _, rfl, ?_⟩
      refine ifT rfl ?_
      refine ⟨_, rfl, ga, _, _, _, rfl, rfl, SqT.of gp, atI0, _, _, _, _, rfl, TyOf.tup hxp, kit_same, _, rfl, _, ⟨_, rfl, ga, _, _, _, rfl, rfl, SqT.of gp, atI0, xp, _, rfl, .inr (SqT.of hxp), _, rfl, ga, _, _, _, rfl, rfl, SqT.of gp, atI1, yp, _, rfl, .inr (SqT.of hyp), rfl, _, rfl, rfl, rfl⟩, ?_⟩
      refine ifF (by rw [lx, ly]; simp) ?_
      refine ⟨_, rfl, ga, _, _, _, rfl, rfl, SqT.of gp, atI1, yp, _, rfl, .inr (SqT.of hyp), _, rfl, by omega, by omega, for_range (lo := 0) (n := ys.length) (fun i σ H' => ∃ (cs : List It4) (o4 : Option V), σ = [some x, some y, some (.ref tp), some (.ref ga), o4] ∧ Same H H' ∧ H' tp = some (.lst ((gs ++ cs).map fun it => V.ref it.1)) ∧ (∀ it ∈ gs ++ cs, Two H' it) ∧ cs.length = i ∧ sz4 cs = ((l.list.take i).map Tr.size).sum ∧
        H' ga = some (.tup [.ref xp, .ref yp]) ∧ H' xp = some (.tup xs) ∧ H' yp = some (.tup ys) ∧ TrsAt H' l xs ∧ TrsAt H' l ys) ⟨[], o4, rfl, s5, by rw [List.append_nil]; exact h5, by rw [List.append_nil]; exact hgs, rfl, rfl, gp, hxp, hyp, hxs, hys⟩ ?_ ?_⟩
      · rintro i σ H6 hi ⟨cs, o4, rfl, s6, h6, hit6, lc, szc, gp6, hxp6, hyp6, hxs6, hys6⟩
        have hil : i < l.list.length := by omega
        have et := List.getElem?_eq_getElem hil
        obtain ⟨vx, ex, tx⟩ := hxs6.get et
        obtain ⟨vy, ey, ty⟩ := hys6.get et
        have at1 : atI xs (0 + (i : Int)) = some vx := by rw [Int.zero_add]; exact atI_nat ex
        have at2 : atI ys (0 + (i : Int)) = some vy := by rw [Int.zero_add]; exact atI_nat ey
        refine ⟨_, rfl, .inl ⟨rfl, _, SqL.of h6⟩, _, rfl, ga, _, _, _, rfl, rfl, SqT.of gp6, atI0, _, rfl, xp, _, _, _, rfl, rfl, SqT.of hxp6, at1, _, rfl, ga, _, _, _, rfl, rfl, SqT.of gp6, atI1, _, rfl, yp, _, _, _, rfl, rfl, SqT.of hyp6, at2, le_line (by show 2 ≤ _; decide), fun np hnp => ?_⟩
        refine alloc_rd (upd _ np _) rfl hnp fun H7 n7 x7 => ?_
        have h7 := n7 _ _ h6
        have tm7 := tup_upd (o := .lst (((gs ++ cs).map fun it => V.ref it.1) ++ [V.ref np])) h7
        have m67 : ∀ b ws, H6 b = some (.tup ws) → upd H7 tp (.lst (((gs ++ cs).map fun it => V.ref it.1) ++ [V.ref np])) b = some (.tup ws) := fun b ws z => tm7 b ws (n7 _ _ z)
        have szs : sz4 cs ≤ l.size := by
          rw [szc, ← Trs.sum_size]
          have e2 : (l.list.map Tr.size).sum = ((l.list.take i).map Tr.size).sum + ((l.list.drop i).map Tr.size).sum := by rw [← List.sum_append, ← List.map_append, List.take_append_drop]
          omega
        have l1 := sz4_len gs
        have l2 := sz4_len cs
        refine ⟨tp, _, _, rfl, rfl, h7, lt_line (by rw [List.length_map, List.length_append]; omega), ?_⟩
        refine ⟨cs ++ [(np, vx, vy, l.list[i])], _, rfl, (s6.trans n7).put ftp, by rw [upd_same]; simp, fun it mm => ?_, by rw [List.length_append, lc]; rfl, ?_, m67 _ _ gp6, m67 _ _ hxp6, m67 _ _ hyp6, hxs6.mono m67, hys6.mono m67⟩
        · rw [← List.append_assoc] at mm
          rcases List.mem_append.mp mm with mm | mm
          · exact (hit6 it mm).mono m67
          · rw [List.mem_singleton.mp mm]
            exact ⟨tm7 _ _ x7, tx.mono m67, ty.mono m67⟩
        · rw [sz4_snoc, szc, List.take_add_one, et, List.map_append, List.sum_append]
          simp
      · rintro σ H6 ⟨cs, o4, rfl, s6, h6, hit6, lc, szc, _⟩
        rw [ly, List.take_length, Trs.sum_size] at szc
        have e3 : sz4 (gs ++ cs) = sz4 gs + sz4 cs := by unfold sz4; rw [List.map_append, List.sum_append]
        refine ⟨_, ?_, gs ++ cs, _, _, rfl, rfl, s6, h6, hit6, by omega⟩
        rw [lz, e3, szc]
        simp only [Tr.size]
        omega
  · exact q _ s4
def TupP (H : Hp) (v : V) (word : Str) (parts : List V) : Prop := ∃ p rest, v = .ref p ∧ H p = some (.tup (.str word :: rest)) ∧ parts.length ≤ 3000 ∧
  ((word = "cols" ∧ ∃ (x : Addr) (y : V) (ns : List Str), rest = [.ref x, y] ∧ H x = some (.tup (ns.map V.str)) ∧ parts = ns.map V.str ++ [y]) ∨ (word ≠ "cols" ∧ parts = rest ∧ rest ≠ []))
def spParts (K : PySem.W.Frag) : Sp := fun vs H Q _ => ∃ (v : V) (word : Str) (parts : List V), vs = [v] ∧ TupP H v word parts ∧ ∀ (l : Addr) (H' : Hp), Same H H' → H l = none → H' l = some (.lst parts) → Q (.ref l) H'
theorem sc_parts_of : FnScope ["part"] ["part"] (defScope s_parts_of) := ⟨rfl, rfl, rfl, by decide +kernel, rfl, by decide +kernel, by decide +kernel⟩
theorem ok_parts_of (F : Fun K "parts_of" "parts_of" s_parts_of f fd) (T : Txt K mg) : FnOk P w K mg base CX0 1 f fd ["part"] (spParts K) := by
  refine F.ok sc_parts_of (fun vs H Q E h => ?_) (fun cdv A outer s H vs Q E hr h => ?_)
  · obtain ⟨v, word, parts, rfl, _⟩ := h
    rfl
  obtain ⟨v, word, parts, rfl, ⟨p, rest, rfl, h1, hl, hc⟩, q⟩ := h
  refine ⟨_, (pss_cons (ps_if (pt_cmpR op_eq (pe_ix ix_tup (pv 0) pe_int (fun _ _ => rfl)) pe_str (nomark _))
      (pss_one (ps_ret (pe_op op_cat (pe_callTy call_list_of rfl T.list PyProof.Rows.boot_list (pa_conS (pe_ix ix_tup (pv 0) pe_int (fun _ _ => rfl)) pa_nil)) (pe_lst (pa_conS (pe_ix ix_tup (pv 0) pe_int (fun _ _ => rfl)) pa_nil)))))
      pss_nil)
    (pss_one (ps_ret (pe_callTy call_list_of rfl T.list PyProof.Rows.boot_list (pa_conS (pe_slice sl_tup (pv 0) (po_some pe_int) po_none) pa_nil))))), ?_⟩
  refine ⟨_, rfl, p, _, _, _, rfl, rfl, SqT.of h1, atI0, rfl, _, rfl, ?_⟩
  rw [dec_strV]
  rcases hc with ⟨rfl, x, y, ns, rfl, hx, rfl⟩ | ⟨hw, rfl, hne⟩
  · refine ifT (decide_eq_true rfl) ?_
    refine ⟨_, rfl, p, _, _, _, rfl, rfl, SqT.of h1, atI1, x, _, rfl, .inr (SqT.of hx), fun l1 hl1 => ?_⟩
    refine alloc_rd (upd _ l1 _) rfl hl1 fun H1 n1 x1 => ?_
    refine ⟨_, rfl, p, _, _, _, rfl, rfl, SqT.of (n1 _ _ h1), atI2, le_line (by show 1 ≤ _; decide), fun l2 hl2 => ?_⟩
    refine alloc_rd (upd _ l2 _) rfl hl2 fun H2 n2 x2 => ?_
    refine ⟨l1, l2, _, _, rfl, rfl, n2 _ _ x1, x2, le_line (by rw [List.length_map]; rw [List.length_append, List.length_map] at hl; simp only [List.length_cons, List.length_nil] at hl ⊢; omega), fun l3 hl3 => ?_⟩
    refine alloc_rd (upd _ l3 _) rfl hl3 fun H3 n3 x3 => ?_
    exact q l3 H3 (n1.trans (n2.trans n3)) ((n1.trans n2).free hl3) x3
  · refine ifF (decide_eq_false hw) ?_
    have hlen : 0 < parts.length := List.length_pos_iff.mpr hne
    refine ⟨_, rfl, 1, rfl, p, _, rfl, SqT.of h1, fun z => ?_, fun t1 ht1 => ?_⟩
    · have z1 := z.1
      have e : HT.sIx (V.str word :: parts).length 0 (some 1) = min (1 : Int).toNat (V.str word :: parts).length := by
        show (if (1 : Int) < 0 then ((1 : Int) + ((V.str word :: parts).length : Int)).toNat else min (1 : Int).toNat (V.str word :: parts).length) = _
        rw [if_neg (by decide)]
      rw [e, List.length_cons] at z1
      have : (1 : Int).toNat = 1 := rfl
      omega
    · rw [cut_rest (by decide)]
      refine alloc_rd (upd _ t1 _) rfl ht1 fun H1 n1 x1 => ?_
      refine ⟨t1, _, rfl, .inr (SqT.of x1), fun l hl' => ?_⟩
      refine alloc_rd (upd _ l _) rfl hl' fun H2 n2 x2 => ?_
      exact q l H2 (n1.trans n2) (n1.free hl') x2
def spread (parts : List V) : List V := parts.flatMap fun x => [V.str " ", x]
def PiecesV (H : Hp) (v : V) (out : List V) : Prop := (∃ p n, v = .ref p ∧ H p = some (.tup [.str "table", n]) ∧ out = [n]) ∨ ∃ word parts, TupP H v word parts ∧ word ≠ "table" ∧ out = [V.str "(", V.str word] ++ spread parts ++ [V.str ")"]
theorem spread_take {parts : List V} {i : Nat} {x : V} (h : parts[i]? = some x) : spread (parts.take (i + 1)) = spread (parts.take i) ++ [V.str " ", x] := by
  unfold spread
  rw [List.take_add_one, h, List.flatMap_append]
  simp
theorem spread_len (parts : List V) : (spread parts).length = 2 * parts.length := by
  unfold spread
  induction parts with
  | nil => rfl
  | cons a r ih =>
    rw [List.flatMap_cons, List.length_append, ih, List.length_cons]
    simp only [List.length_cons, List.length_nil]
    omega
def spPieces (K : PySem.W.Frag) : Sp := fun vs H Q _ => ∃ (v : V) (out : List V), vs = [v] ∧ PiecesV H v out ∧ ∀ (l : Addr) (H' : Hp), Same H H' → H l = none → H' l = some (.lst out) → Q (.ref l) H'
theorem sc_pieces_of : FnScope ["part", "pieces", "inner"] ["part"] (defScope s_pieces_of) := ⟨rfl, rfl, rfl, by decide +kernel, rfl, by decide +kernel, by decide +kernel⟩
theorem ok_pieces_of (F : Fun K "pieces_of" "pieces_of" s_pieces_of f fd) (T : Txt K mg) (Cparts_of : Kn P w K mg base 1 "parts_of" ["part"] (spParts K)) : FnOk P w K mg base CX0 2 f fd ["part"] (spPieces K) := by
  refine F.ok sc_pieces_of (fun vs H Q E h => ?_) (fun cdv A outer s H vs Q E hr h => ?_)
  · obtain ⟨v, out, rfl, _⟩ := h
    rfl
  obtain ⟨v, out, rfl, hp, q⟩ := h
  refine ⟨_, (pss_cons (ps_if (pt_cmpR op_eq (pe_ix ix_tup (pv 0) pe_int (fun _ _ => rfl)) pe_str (nomark _))
      (pss_one (ps_ret (pe_lst (pa_conS (pe_ix ix_tup (pv 0) pe_int (fun _ _ => rfl)) pa_nil))))
      pss_nil)
    (pss_cons (ps_set (i := 1) sc_pieces_of.nd rfl (Or.inl rfl) (pe_lst (pa_conC pe_str (pa_conS (pe_ix ix_tup (pv 0) pe_int (fun _ _ => rfl)) pa_nil))))
    (pss_cons (ps_for PassesOwn.never rfl (pi_list (pe_callF Cparts_of (hr.mono (by first | decide | omega)) rfl (pa_conN (pv 0) pa_nil))) (pg_name (i := 2) sc_pieces_of.nd rfl (Or.inl rfl))
      (pss_cons (ps_expr (pe_bm PySem.F.plainAttrs_list PySem.F.slot_list_append PySem.F.type_list_append mt_append (pv 1) (pa_conC pe_str pa_nil)))
      (pss_one (ps_expr (pe_bm PySem.F.plainAttrs_list PySem.F.slot_list_append PySem.F.type_list_append mt_append (pv 1) (pa_conN (pv 2) pa_nil))))))
    (pss_cons (ps_expr (pe_bm PySem.F.plainAttrs_list PySem.F.slot_list_append PySem.F.type_list_append mt_append (pv 1) (pa_conC pe_str pa_nil)))
    (pss_one (ps_ret (pv 1))))))), ?_⟩
  rcases hp with ⟨p, n, rfl, h1, rfl⟩ | ⟨word, parts, tp, hw, rfl⟩
  · refine ⟨_, rfl, p, _, _, _, rfl, rfl, SqT.of h1, atI0, rfl, _, rfl, ?_⟩
    rw [dec_strV]
    refine ifT (decide_eq_true rfl) ?_
    refine ⟨_, rfl, p, _, _, _, rfl, rfl, SqT.of h1, atI1, le_line (by show 1 ≤ _; decide), fun l hl => ?_⟩
    refine alloc_rd (upd _ l _) rfl hl fun H1 n1 x1 => ?_
    exact q l H1 n1 hl x1
  · obtain ⟨p, rest, rfl, h1, hl, hc⟩ := id tp
    refine ⟨_, rfl, p, _, _, _, rfl, rfl, SqT.of h1, atI0, rfl, _, rfl, ?_⟩
    rw [dec_strV]
    refine ifF (decide_eq_false hw) ?_
    refine ⟨_, rfl, p, _, _, _, rfl, rfl, SqT.of h1, atI0, le_line (by show 2 ≤ _; decide), fun pp hpp => ?_⟩
    refine alloc_rd (upd _ pp _) rfl hpp fun H1 n1 x1 => ?_
    have tp1 : TupP H1 (.ref p) word parts := by
      obtain ⟨p', rest', e, h1', hl', hc'⟩ := tp
      refine ⟨p', rest', e, n1 _ _ h1', hl', ?_⟩
      rcases hc' with ⟨a, x, y, ns, b, c, d⟩ | z
      · exact .inl ⟨a, x, y, ns, b, n1 _ _ c, d⟩
      · exact .inr z
    refine ⟨_, rfl, _, word, parts, rfl, tp1, fun l H2 n2 fl x2 => ?_⟩
    have npl : l ≠ pp := (ne_of_none x1 fl).symm
    have s2 := n1.trans n2
    refine ⟨l, rfl, ⟨_, SqL.of x2⟩, for_list (K := K) (a := l) (xs := parts) (fun i σ H' => ∃ o2 : Option V, σ = [some (.ref p), some (.ref pp), o2] ∧ Same H H' ∧ H' l = some (.lst parts) ∧ H' pp = some (.lst ([V.str "(", V.str word] ++ spread (parts.take i)))) ⟨none, rfl, s2, x2, n2 _ _ x1⟩ (fun i σ H' _ ⟨_, _, _, z, _⟩ => SqL.of z) ?_ ?_⟩
    · rintro i x σ H3 hi ⟨o2, rfl, s3, l3, p3⟩
      have hil := (List.getElem?_eq_some_iff.mp hi).1
      have sl := spread_len (parts.take i)
      rw [List.length_take] at sl
      refine ⟨_, rfl, .inl ⟨rfl, _, SqL.of p3⟩, pp, _, _, rfl, rfl, p3, lt_line (by rw [List.length_append, sl]; simp only [List.length_cons, List.length_nil]; omega), ?_⟩
      refine ⟨_, rfl, .inl ⟨rfl, _, SqL.of upd_same⟩, _, rfl, pp, _, _, rfl, rfl, upd_same, lt_line (by rw [List.length_append, List.length_append, sl]; simp only [List.length_cons, List.length_nil]; omega), ?_⟩
      refine ⟨_, rfl, (s3.put hpp).put hpp, by rw [upd_ne npl, upd_ne npl]; exact l3, ?_⟩
      rw [upd_same, spread_take hi]
      simp
    · rintro σ H3 ⟨o2, rfl, s3, l3, p3⟩
      rw [List.take_length] at p3
      have sl := spread_len parts
      refine ⟨_, rfl, .inl ⟨rfl, _, SqL.of p3⟩, pp, _, _, rfl, rfl, p3, lt_line (by rw [List.length_append, sl]; simp only [List.length_cons, List.length_nil]; omega), ?_⟩
      exact ⟨_, rfl, q pp _ (s3.put hpp) hpp upd_same⟩
def sideOk : Side → Prop
  | .nm _ => True
  | .nu i => i.natAbs.log2 < 1920
def numsOk : Cond → Prop
  | .less a b => sideOk a ∧ sideOk b
  | .same a b => sideOk a ∧ sideOk b
  | .no c => numsOk c
  | .an c d => numsOk c ∧ numsOk d
  | .or c d => numsOk c ∧ numsOk d
def numsQ : Qn → Prop
  | .table _ => True
  | .pick c q => numsOk c ∧ numsQ q
  | .cols ns q => ns ≠ [] ∧ ns.length ≤ 1000 ∧ numsQ q
  | .pair q r => numsQ q ∧ numsQ r
  | .join _ _ q r => numsQ q ∧ numsQ r
  | .both q r => numsQ q ∧ numsQ r
  | .first n q => n.natAbs.log2 < 1920 ∧ numsQ q
  | .group _ _ _ _ q => numsQ q
  | .sort _ q => numsQ q
inductive Pc where
  | s (x : Str) | i (n : Int) | c (c : Cond) | q (q : Qn)
def PcAt (H : Hp) : Pc → V → Prop
  | .s x, v => v = .str x
  | .i n, v => v = .int n ∧ n.natAbs.log2 < 1920
  | .c c, v => CondAt H c v ∧ numsOk c
  | .q q, v => QAt H q v ∧ numsQ q
def rend : Pc → Str
  | .s x => x
  | .i n => toString n
  | .c c => spell c
  | .q q => lineOf q
def wtC : Cond → Nat
  | .less _ _ => 8
  | .same _ _ => 8
  | .no c => 5 + wtC c
  | .an c d => 6 + wtC c + wtC d
  | .or c d => 6 + wtC c + wtC d
def wtQ : Qn → Nat
  | .table _ => 2
  | .pick c q => 6 + wtC c + wtQ q
  | .cols ns q => 5 + 2 * ns.length + wtQ q
  | .pair q r => 6 + wtQ q + wtQ r
  | .join _ _ q r => 10 + wtQ q + wtQ r
  | .both q r => 6 + wtQ q + wtQ r
  | .first _ q => 7 + wtQ q
  | .group _ _ _ _ q => 13 + wtQ q
  | .sort _ q => 7 + wtQ q
def wt : Pc → Nat
  | .s _ => 1
  | .i _ => 1
  | .c c => wtC c
  | .q q => wtQ q
def cat : List Str → Str
  | [] => Str.empty
  | x :: r => x ++ cat r
theorem cat_append : ∀ (a b : List Str), cat (a ++ b) = cat a ++ cat b
  | [], b => by rw [List.nil_append]; exact (Str.empty_append _).symm
  | x :: a, b => by
    show x ++ cat (a ++ b) = x ++ cat a ++ cat b
    rw [cat_append a b, Str.append_assoc]
theorem join_cat : ∀ xs : List Str, Str.join "" xs = cat xs
  | [] => rfl
  | [x] => (Str.append_empty x).symm
  | x :: y :: r => by
    show x ++ "" ++ Str.join "" (y :: r) = x ++ cat (y :: r)
    rw [join_cat (y :: r)]
    have : (("" : Str)) = Str.empty := by decide +kernel
    rw [this, Str.append_empty]
theorem cat_len : ∀ ws : List Str, (cat ws).length = (ws.map (·.length)).sum
  | [] => rfl
  | x :: r => by
    show (x ++ cat r).length = _
    rw [Str.length_append, cat_len r, List.map_cons, List.sum_cons]
theorem w_pick : ("(pick " : Str) = ("(" : Str) ++ (("pick" : Str) ++ (" " : Str)) := by decide +kernel
theorem w_cols : ("(cols " : Str) = ("(" : Str) ++ (("cols" : Str) ++ (" " : Str)) := by decide +kernel
theorem w_pair : ("(pair " : Str) = ("(" : Str) ++ (("pair" : Str) ++ (" " : Str)) := by decide +kernel
theorem w_join : ("(join " : Str) = ("(" : Str) ++ (("join" : Str) ++ (" " : Str)) := by decide +kernel
theorem w_both : ("(both " : Str) = ("(" : Str) ++ (("both" : Str) ++ (" " : Str)) := by decide +kernel
theorem w_first : ("(first " : Str) = ("(" : Str) ++ (("first" : Str) ++ (" " : Str)) := by decide +kernel
theorem w_group : ("(group " : Str) = ("(" : Str) ++ (("group" : Str) ++ (" " : Str)) := by decide +kernel
theorem w_sort : ("(sort " : Str) = ("(" : Str) ++ (("sort" : Str) ++ (" " : Str)) := by decide +kernel
theorem cat_names : ∀ {ns : List Str}, ns ≠ [] → cat (ns.flatMap fun n => [(" " : Str), n]) = " " ++ Str.join " " ns
  | [], h => absurd rfl h
  | [n], _ => by
    show " " ++ (n ++ Str.empty) = " " ++ n
    rw [Str.append_empty]
  | n :: m :: r, _ => by
    have ih := cat_names (ns := m :: r) (by simp)
    show " " ++ (n ++ cat ((m :: r).flatMap fun n => [(" " : Str), n])) = " " ++ (n ++ " " ++ Str.join " " (m :: r))
    rw [ih, Str.append_assoc]
def sidePc : Side → Pc
  | .nm s => .s s
  | .nu i => .i i
theorem side_rend (a : Side) : rend (sidePc a) = Side.txt a := by cases a <;> rfl
theorem side_at {H : Hp} {a : Side} (h : sideOk a) : PcAt H (sidePc a) a.v := by
  cases a with
  | nm s => exact rfl
  | nu i => exact ⟨rfl, h⟩
theorem side_wt (a : Side) : wt (sidePc a) = 1 := by cases a <;> rfl
def wts (its : List (V × Pc)) : Nat := (its.map fun it => wt it.2).sum
theorem wts_app (a b : List (V × Pc)) : wts (a ++ b) = wts a + wts b := by unfold wts; rw [List.map_append, List.sum_append]
theorem wtC_pos : ∀ c, 1 ≤ wtC c
  | .less _ _ => by simp [wtC]
  | .same _ _ => by simp [wtC]
  | .no c => by simp only [wtC]; omega
  | .an c d => by simp only [wtC]; omega
  | .or c d => by simp only [wtC]; omega
theorem wtQ_pos (q : Qn) : 1 ≤ wtQ q := by cases q <;> simp only [wtQ] <;> omega
theorem wt_pos (p : Pc) : 1 ≤ wt p := by
  cases p with
  | s x => exact Nat.le_refl _
  | i n => exact Nat.le_refl _
  | c c => exact wtC_pos c
  | q q => exact wtQ_pos q
theorem wts_len (its : List (V × Pc)) : its.length ≤ wts its := by
  unfold wts
  induction its with
  | nil => exact Nat.le_refl _
  | cons a r ih =>
    rw [List.map_cons, List.sum_cons, List.length_cons]
    have := wt_pos a.2
    omega
def Opened (H : Hp) (pc : Pc) (v : V) : Prop := ∃ its : List (V × Pc), (∃ p xs, v = .ref p ∧ H p = some (.tup xs)) ∧ PiecesV H v (its.map (·.1)) ∧ (∀ it ∈ its, PcAt H it.2 it.1) ∧ cat (its.map fun it => rend it.2) = rend pc ∧ wts its + 1 = wt pc
theorem open_c {H : Hp} : ∀ {c : Cond} {v : V}, CondAt H c v ∧ numsOk c → Opened H (.c c) v
  | .less a b, v, h => by
    obtain ⟨⟨p, rfl, hp⟩, h1, h2⟩ := h
    refine ⟨[(V.str "(", Pc.s "("), (V.str "less", Pc.s "less"), (V.str " ", Pc.s " "), (a.v, sidePc a), (V.str " ", Pc.s " "), (b.v, sidePc b), (V.str ")", Pc.s ")")], ⟨p, _, rfl, hp⟩, .inr ⟨"less", [a.v, b.v], ⟨p, _, rfl, hp, by simp only [List.length_cons, List.length_nil]; omega, .inr ⟨by decide +kernel, rfl, by simp⟩⟩, by decide +kernel, rfl⟩, fun it m => ?_, ?_, ?_⟩
    · simp only [List.mem_cons, List.not_mem_nil, or_false] at m
      rcases m with rfl | rfl | rfl | rfl | rfl | rfl | rfl
      · exact rfl
      · exact rfl
      · exact rfl
      · exact side_at h1
      · exact rfl
      · exact side_at h2
      · exact rfl
    · show cat [rend (Pc.s "("), rend (Pc.s "less"), rend (Pc.s " "), rend (sidePc a), rend (Pc.s " "), rend (sidePc b), rend (Pc.s ")")] = _
      simp only [cat, side_rend]
      simp only [rend, spell, ends, Str.append_assoc, Str.append_empty]
    · simp only [wts, List.map_cons, List.map_nil, List.sum_cons, List.sum_nil, side_wt]
      simp only [wt, wtC]
      rfl
  | .same a b, v, h => by
    obtain ⟨⟨p, rfl, hp⟩, h1, h2⟩ := h
    refine ⟨[(V.str "(", Pc.s "("), (V.str "same", Pc.s "same"), (V.str " ", Pc.s " "), (a.v, sidePc a), (V.str " ", Pc.s " "), (b.v, sidePc b), (V.str ")", Pc.s ")")], ⟨p, _, rfl, hp⟩, .inr ⟨"same", [a.v, b.v], ⟨p, _, rfl, hp, by simp only [List.length_cons, List.length_nil]; omega, .inr ⟨by decide +kernel, rfl, by simp⟩⟩, by decide +kernel, rfl⟩, fun it m => ?_, ?_, ?_⟩
    · simp only [List.mem_cons, List.not_mem_nil, or_false] at m
      rcases m with rfl | rfl | rfl | rfl | rfl | rfl | rfl
      · exact rfl
      · exact rfl
      · exact rfl
      · exact side_at h1
      · exact rfl
      · exact side_at h2
      · exact rfl
    · show cat [rend (Pc.s "("), rend (Pc.s "same"), rend (Pc.s " "), rend (sidePc a), rend (Pc.s " "), rend (sidePc b), rend (Pc.s ")")] = _
      simp only [cat, side_rend]
      simp only [rend, spell, ends, Str.append_assoc, Str.append_empty]
    · simp only [wts, List.map_cons, List.map_nil, List.sum_cons, List.sum_nil, side_wt]
      simp only [wt, wtC]
      rfl
  | .no c, v, h => by
    obtain ⟨⟨p, x, rfl, hp, hc⟩, h1⟩ := h
    refine ⟨[(V.str "(", Pc.s "("), (V.str "not", Pc.s "not"), (V.str " ", Pc.s " "), (x, Pc.c c), (V.str ")", Pc.s ")")], ⟨p, _, rfl, hp⟩, .inr ⟨"not", [x], ⟨p, _, rfl, hp, by simp only [List.length_cons, List.length_nil]; omega, .inr ⟨by decide +kernel, rfl, by simp⟩⟩, by decide +kernel, rfl⟩, fun it m => ?_, ?_, ?_⟩
    · simp only [List.mem_cons, List.not_mem_nil, or_false] at m
      rcases m with rfl | rfl | rfl | rfl | rfl
      · exact rfl
      · exact rfl
      · exact rfl
      · exact ⟨hc, h1⟩
      · exact rfl
    · show cat [rend (Pc.s "("), rend (Pc.s "not"), rend (Pc.s " "), rend (Pc.c c), rend (Pc.s ")")] = _
      simp only [cat, rend, spell, Str.append_assoc, Str.append_empty]
    · simp only [wts, List.map_cons, List.map_nil, List.sum_cons, List.sum_nil, wt, wtC]
      omega
  | .an c d, v, h => by
    obtain ⟨⟨p, x, y, rfl, hp, hc, hd⟩, h1, h2⟩ := h
    refine ⟨[(V.str "(", Pc.s "("), (V.str "and", Pc.s "and"), (V.str " ", Pc.s " "), (x, Pc.c c), (V.str " ", Pc.s " "), (y, Pc.c d), (V.str ")", Pc.s ")")], ⟨p, _, rfl, hp⟩, .inr ⟨"and", [x, y], ⟨p, _, rfl, hp, by simp only [List.length_cons, List.length_nil]; omega, .inr ⟨by decide +kernel, rfl, by simp⟩⟩, by decide +kernel, rfl⟩, fun it m => ?_, ?_, ?_⟩
    · simp only [List.mem_cons, List.not_mem_nil, or_false] at m
      rcases m with rfl | rfl | rfl | rfl | rfl | rfl | rfl
      · exact rfl
      · exact rfl
      · exact rfl
      · exact ⟨hc, h1⟩
      · exact rfl
      · exact ⟨hd, h2⟩
      · exact rfl
    · show cat [rend (Pc.s "("), rend (Pc.s "and"), rend (Pc.s " "), rend (Pc.c c), rend (Pc.s " "), rend (Pc.c d), rend (Pc.s ")")] = _
      simp only [cat, rend, spell, Str.append_assoc, Str.append_empty]
    · simp only [wts, List.map_cons, List.map_nil, List.sum_cons, List.sum_nil, wt, wtC]
      omega
  | .or c d, v, h => by
    obtain ⟨⟨p, x, y, rfl, hp, hc, hd⟩, h1, h2⟩ := h
    refine ⟨[(V.str "(", Pc.s "("), (V.str "or", Pc.s "or"), (V.str " ", Pc.s " "), (x, Pc.c c), (V.str " ", Pc.s " "), (y, Pc.c d), (V.str ")", Pc.s ")")], ⟨p, _, rfl, hp⟩, .inr ⟨"or", [x, y], ⟨p, _, rfl, hp, by simp only [List.length_cons, List.length_nil]; omega, .inr ⟨by decide +kernel, rfl, by simp⟩⟩, by decide +kernel, rfl⟩, fun it m => ?_, ?_, ?_⟩
    · simp only [List.mem_cons, List.not_mem_nil, or_false] at m
      rcases m with rfl | rfl | rfl | rfl | rfl | rfl | rfl
      · exact rfl
      · exact rfl
      · exact rfl
      · exact ⟨hc, h1⟩
      · exact rfl
      · exact ⟨hd, h2⟩
      · exact rfl
    · show cat [rend (Pc.s "("), rend (Pc.s "or"), rend (Pc.s " "), rend (Pc.c c), rend (Pc.s " "), rend (Pc.c d), rend (Pc.s ")")] = _
      simp only [cat, rend, spell, Str.append_assoc, Str.append_empty]
    · simp only [wts, List.map_cons, List.map_nil, List.sum_cons, List.sum_nil, wt, wtC]
      omega
theorem open_q {H : Hp} : ∀ {q : Qn} {v : V}, QAt H q v ∧ numsQ q → Opened H (.q q) v
  | .table n, v, h => by
    obtain ⟨⟨p, rfl, hp⟩, _⟩ := h
    refine ⟨[(V.str n, Pc.s n)], ⟨p, _, rfl, hp⟩, .inl ⟨p, _, rfl, hp, rfl⟩, fun it m => ?_, ?_, rfl⟩
    · rw [List.mem_singleton.mp m]
      exact rfl
    · show n ++ Str.empty = n
      exact Str.append_empty n
  | .pick c q, v, h => by
    obtain ⟨⟨p, x, y, rfl, hp, hc, hq⟩, h1, h2⟩ := h
    refine ⟨[(V.str "(", Pc.s "("), (V.str "pick", Pc.s "pick"), (V.str " ", Pc.s " "), (x, Pc.c c), (V.str " ", Pc.s " "), (y, Pc.q q), (V.str ")", Pc.s ")")], ⟨p, _, rfl, hp⟩, .inr ⟨"pick", [x, y], ⟨p, _, rfl, hp, by simp only [List.length_cons, List.length_nil]; omega, .inr ⟨by decide +kernel, rfl, by simp⟩⟩, by decide +kernel, rfl⟩, fun it m => ?_, ?_, ?_⟩
    · simp only [List.mem_cons, List.not_mem_nil, or_false] at m
      rcases m with rfl | rfl | rfl | rfl | rfl | rfl | rfl
      · exact rfl
      · exact rfl
      · exact rfl
      · exact ⟨hc, h1⟩
      · exact rfl
      · exact ⟨hq, h2⟩
      · exact rfl
    · show cat [rend (Pc.s "("), rend (Pc.s "pick"), rend (Pc.s " "), rend (Pc.c c), rend (Pc.s " "), rend (Pc.q q), rend (Pc.s ")")] = _
      simp only [cat, rend, lineOf, w_pick, Str.append_assoc, Str.append_empty]
    · simp only [wts, List.map_cons, List.map_nil, List.sum_cons, List.sum_nil, wt, wtQ]
      omega
  | .cols ns q, v, h => by
    obtain ⟨⟨p, x, y, rfl, hp, hx, hq⟩, hne, hl, h2⟩ := h
    refine ⟨[(V.str "(", Pc.s "("), (V.str "cols", Pc.s "cols")] ++ (ns.flatMap fun n => [(V.str " ", Pc.s " "), (V.str n, Pc.s n)]) ++ [(V.str " ", Pc.s " "), (y, Pc.q q), (V.str ")", Pc.s ")")], ⟨p, _, rfl, hp⟩, .inr ⟨"cols", ns.map V.str ++ [y], ⟨p, _, rfl, hp, by rw [List.length_append, List.length_map, List.length_singleton]; omega, .inl ⟨rfl, x, y, ns, rfl, hx, rfl⟩⟩, by decide +kernel, ?_⟩, fun it m => ?_, ?_, ?_⟩
    · unfold spread
      rw [List.map_append, List.map_append, List.flatMap_append, List.map_flatMap, List.flatMap_map]
      simp
    · rcases List.mem_append.mp m with m | m
      · rcases List.mem_append.mp m with m | m
        · simp only [List.mem_cons, List.not_mem_nil, or_false] at m
          rcases m with rfl | rfl <;> exact rfl
        · obtain ⟨n, _, m⟩ := List.mem_flatMap.mp m
          simp only [List.mem_cons, List.not_mem_nil, or_false] at m
          rcases m with rfl | rfl <;> exact rfl
      · simp only [List.mem_cons, List.not_mem_nil, or_false] at m
        rcases m with rfl | rfl | rfl
        · exact rfl
        · exact ⟨hq, h2⟩
        · exact rfl
    · rw [List.map_append, List.map_append, cat_append, cat_append, List.map_flatMap]
      show cat [("(" : Str), "cols"] ++ cat (ns.flatMap fun n => [(" " : Str), n]) ++ cat [(" " : Str), lineOf q, ")"] = lineOf (.cols ns q)
      rw [cat_names hne]
      simp only [cat, lineOf, w_cols, Str.append_assoc, Str.append_empty]
    · rw [wts_app, wts_app]
      have e : wts (ns.flatMap fun n => [(V.str " ", Pc.s " "), (V.str n, Pc.s n)]) = 2 * ns.length := by
        clear hne hl hx
        induction ns with
        | nil => rfl
        | cons n ns ih =>
          rw [List.flatMap_cons, wts_app, ih, List.length_cons]
          show 1 + (1 + 0) + _ = _
          omega
      rw [e]
      simp only [wts, List.map_cons, List.map_nil, List.sum_cons, List.sum_nil, wt, wtQ]
      omega
  | .pair q r, v, h => by
    obtain ⟨⟨p, x, y, rfl, hp, hq, hr⟩, h1, h2⟩ := h
    refine ⟨[(V.str "(", Pc.s "("), (V.str "pair", Pc.s "pair"), (V.str " ", Pc.s " "), (x, Pc.q q), (V.str " ", Pc.s " "), (y, Pc.q r), (V.str ")", Pc.s ")")], ⟨p, _, rfl, hp⟩, .inr ⟨"pair", [x, y], ⟨p, _, rfl, hp, by simp only [List.length_cons, List.length_nil]; omega, .inr ⟨by decide +kernel, rfl, by simp⟩⟩, by decide +kernel, rfl⟩, fun it m => ?_, ?_, ?_⟩
    · simp only [List.mem_cons, List.not_mem_nil, or_false] at m
      rcases m with rfl | rfl | rfl | rfl | rfl | rfl | rfl
      · exact rfl
      · exact rfl
      · exact rfl
      · exact ⟨hq, h1⟩
      · exact rfl
      · exact ⟨hr, h2⟩
      · exact rfl
    · show cat [rend (Pc.s "("), rend (Pc.s "pair"), rend (Pc.s " "), rend (Pc.q q), rend (Pc.s " "), rend (Pc.q r), rend (Pc.s ")")] = _
      simp only [cat, rend, lineOf, w_pair, Str.append_assoc, Str.append_empty]
    · simp only [wts, List.map_cons, List.map_nil, List.sum_cons, List.sum_nil, wt, wtQ]
      omega
  | .join a b q r, v, h => by
    obtain ⟨⟨p, x, y, rfl, hp, hq, hr⟩, h1, h2⟩ := h
    refine ⟨[(V.str "(", Pc.s "("), (V.str "join", Pc.s "join"), (V.str " ", Pc.s " "), (V.str a, Pc.s a), (V.str " ", Pc.s " "), (V.str b, Pc.s b), (V.str " ", Pc.s " "), (x, Pc.q q), (V.str " ", Pc.s " "), (y, Pc.q r), (V.str ")", Pc.s ")")], ⟨p, _, rfl, hp⟩, .inr ⟨"join", [V.str a, V.str b, x, y], ⟨p, _, rfl, hp, by simp only [List.length_cons, List.length_nil]; omega, .inr ⟨by decide +kernel, rfl, by simp⟩⟩, by decide +kernel, rfl⟩, fun it m => ?_, ?_, ?_⟩
    · simp only [List.mem_cons, List.not_mem_nil, or_false] at m
      rcases m with rfl | rfl | rfl | rfl | rfl | rfl | rfl | rfl | rfl | rfl | rfl
      · exact rfl
      · exact rfl
      · exact rfl
      · exact rfl
      · exact rfl
      · exact rfl
      · exact rfl
      · exact ⟨hq, h1⟩
      · exact rfl
      · exact ⟨hr, h2⟩
      · exact rfl
    · show cat [rend (Pc.s "("), rend (Pc.s "join"), rend (Pc.s " "), rend (Pc.s a), rend (Pc.s " "), rend (Pc.s b), rend (Pc.s " "), rend (Pc.q q), rend (Pc.s " "), rend (Pc.q r), rend (Pc.s ")")] = _
      simp only [cat, rend, lineOf, w_join, Str.append_assoc, Str.append_empty]
    · simp only [wts, List.map_cons, List.map_nil, List.sum_cons, List.sum_nil, wt, wtQ]
      omega
  | .both q r, v, h => by
    obtain ⟨⟨p, x, y, rfl, hp, hq, hr⟩, h1, h2⟩ := h
    refine ⟨[(V.str "(", Pc.s "("), (V.str "both", Pc.s "both"), (V.str " ", Pc.s " "), (x, Pc.q q), (V.str " ", Pc.s " "), (y, Pc.q r), (V.str ")", Pc.s ")")], ⟨p, _, rfl, hp⟩, .inr ⟨"both", [x, y], ⟨p, _, rfl, hp, by simp only [List.length_cons, List.length_nil]; omega, .inr ⟨by decide +kernel, rfl, by simp⟩⟩, by decide +kernel, rfl⟩, fun it m => ?_, ?_, ?_⟩
    · simp only [List.mem_cons, List.not_mem_nil, or_false] at m
      rcases m with rfl | rfl | rfl | rfl | rfl | rfl | rfl
      · exact rfl
      · exact rfl
      · exact rfl
      · exact ⟨hq, h1⟩
      · exact rfl
      · exact ⟨hr, h2⟩
      · exact rfl
    · show cat [rend (Pc.s "("), rend (Pc.s "both"), rend (Pc.s " "), rend (Pc.q q), rend (Pc.s " "), rend (Pc.q r), rend (Pc.s ")")] = _
      simp only [cat, rend, lineOf, w_both, Str.append_assoc, Str.append_empty]
    · simp only [wts, List.map_cons, List.map_nil, List.sum_cons, List.sum_nil, wt, wtQ]
      omega
  | .first n q, v, h => by
    obtain ⟨⟨p, y, rfl, hp, hq⟩, h1, h2⟩ := h
    refine ⟨[(V.str "(", Pc.s "("), (V.str "first", Pc.s "first"), (V.str " ", Pc.s " "), (V.int n, Pc.i n), (V.str " ", Pc.s " "), (y, Pc.q q), (V.str ")", Pc.s ")")], ⟨p, _, rfl, hp⟩, .inr ⟨"first", [V.int n, y], ⟨p, _, rfl, hp, by simp only [List.length_cons, List.length_nil]; omega, .inr ⟨by decide +kernel, rfl, by simp⟩⟩, by decide +kernel, rfl⟩, fun it m => ?_, ?_, ?_⟩
    · simp only [List.mem_cons, List.not_mem_nil, or_false] at m
      rcases m with rfl | rfl | rfl | rfl | rfl | rfl | rfl
      · exact rfl
      · exact rfl
      · exact rfl
      · exact ⟨rfl, h1⟩
      · exact rfl
      · exact ⟨hq, h2⟩
      · exact rfl
    · show cat [rend (Pc.s "("), rend (Pc.s "first"), rend (Pc.s " "), rend (Pc.i n), rend (Pc.s " "), rend (Pc.q q), rend (Pc.s ")")] = _
      simp only [cat, rend, lineOf, w_first, Str.append_assoc, Str.append_empty]
    · simp only [wts, List.map_cons, List.map_nil, List.sum_cons, List.sum_nil, wt, wtQ]
      omega
  | .group a b n t q, v, h => by
    obtain ⟨⟨p, y, rfl, hp, hq⟩, h2⟩ := h
    refine ⟨[(V.str "(", Pc.s "("), (V.str "group", Pc.s "group"), (V.str " ", Pc.s " "), (V.str a, Pc.s a), (V.str " ", Pc.s " "), (V.str b, Pc.s b), (V.str " ", Pc.s " "), (V.str n, Pc.s n), (V.str " ", Pc.s " "), (V.str t, Pc.s t), (V.str " ", Pc.s " "), (y, Pc.q q), (V.str ")", Pc.s ")")], ⟨p, _, rfl, hp⟩, .inr ⟨"group", [V.str a, V.str b, V.str n, V.str t, y], ⟨p, _, rfl, hp, by simp only [List.length_cons, List.length_nil]; omega, .inr ⟨by decide +kernel, rfl, by simp⟩⟩, by decide +kernel, rfl⟩, fun it m => ?_, ?_, ?_⟩
    · simp only [List.mem_cons, List.not_mem_nil, or_false] at m
      rcases m with rfl | rfl | rfl | rfl | rfl | rfl | rfl | rfl | rfl | rfl | rfl | rfl | rfl
      · exact rfl
      · exact rfl
      · exact rfl
      · exact rfl
      · exact rfl
      · exact rfl
      · exact rfl
      · exact rfl
      · exact rfl
      · exact rfl
      · exact rfl
      · exact ⟨hq, h2⟩
      · exact rfl
    · show cat [rend (Pc.s "("), rend (Pc.s "group"), rend (Pc.s " "), rend (Pc.s a), rend (Pc.s " "), rend (Pc.s b), rend (Pc.s " "), rend (Pc.s n), rend (Pc.s " "), rend (Pc.s t), rend (Pc.s " "), rend (Pc.q q), rend (Pc.s ")")] = _
      simp only [cat, rend, lineOf, w_group, Str.append_assoc, Str.append_empty]
    · simp only [wts, List.map_cons, List.map_nil, List.sum_cons, List.sum_nil, wt, wtQ]
      omega
  | .sort a q, v, h => by
    obtain ⟨⟨p, y, rfl, hp, hq⟩, h2⟩ := h
    refine ⟨[(V.str "(", Pc.s "("), (V.str "sort", Pc.s "sort"), (V.str " ", Pc.s " "), (V.str a, Pc.s a), (V.str " ", Pc.s " "), (y, Pc.q q), (V.str ")", Pc.s ")")], ⟨p, _, rfl, hp⟩, .inr ⟨"sort", [V.str a, y], ⟨p, _, rfl, hp, by simp only [List.length_cons, List.length_nil]; omega, .inr ⟨by decide +kernel, rfl, by simp⟩⟩, by decide +kernel, rfl⟩, fun it m => ?_, ?_, ?_⟩
    · simp only [List.mem_cons, List.not_mem_nil, or_false] at m
      rcases m with rfl | rfl | rfl | rfl | rfl | rfl | rfl
      · exact rfl
      · exact rfl
      · exact rfl
      · exact rfl
      · exact rfl
      · exact ⟨hq, h2⟩
      · exact rfl
    · show cat [rend (Pc.s "("), rend (Pc.s "sort"), rend (Pc.s " "), rend (Pc.s a), rend (Pc.s " "), rend (Pc.q q), rend (Pc.s ")")] = _
      simp only [cat, rend, lineOf, w_sort, Str.append_assoc, Str.append_empty]
    · simp only [wts, List.map_cons, List.map_nil, List.sum_cons, List.sum_nil, wt, wtQ]
      omega
theorem PcAt.mono {H H' : Hp} (m : ∀ b xs, H b = some (.tup xs) → H' b = some (.tup xs)) {p : Pc} {v : V} (h : PcAt H p v) : PcAt H' p v := by
  cases p with
  | s x => exact h
  | i n => exact h
  | c c => exact ⟨h.1.mono m, h.2⟩
  | q q => exact ⟨h.1.mono m, h.2⟩
theorem PiecesV.mono {H H' : Hp} (m : ∀ b xs, H b = some (.tup xs) → H' b = some (.tup xs)) {v : V} {out : List V} (h : PiecesV H v out) : PiecesV H' v out := by
  rcases h with ⟨p, n, e, h1, h2⟩ | ⟨word, parts, ⟨p, rest, e, h1, hl, hc⟩, hw, ho⟩
  · exact .inl ⟨p, n, e, m _ _ h1, h2⟩
  · refine .inr ⟨word, parts, ⟨p, rest, e, m _ _ h1, hl, ?_⟩, hw, ho⟩
    rcases hc with ⟨a, x, y, ns, b, c, d⟩ | z
    · exact .inl ⟨a, x, y, ns, b, m _ _ c, d⟩
    · exact .inr z
theorem snoc_rend (gs : List (V × Pc)) (g : V × Pc) : cat ((gs ++ [g]).reverse.map fun it => rend it.2) = rend g.2 ++ cat (gs.reverse.map fun it => rend it.2) := by
  rw [List.reverse_append, List.map_append, cat_append]
  show rend g.2 ++ Str.empty ++ _ = _
  rw [Str.append_empty]
theorem cat_snoc (ws : List Str) (x : Str) : cat (ws ++ [x]) = cat ws ++ x := by
  rw [cat_append]
  show cat ws ++ (x ++ Str.empty) = _
  rw [Str.append_empty]
theorem wtC_line : ∀ c : Cond, wtC c ≤ 3 * (spell c).length
  | .less a b => by simp only [wtC, spell]; (simp only [Str.length_append, l_open, l_close, l_blank, l_less, l_same, l_not, l_and, l_or, l_pick, l_cols, l_sort, l_first, l_both, l_pair, l_join, l_group, l_picks, l_cb, l_n, l_s, l_bn, l_bs, PySem.sizeLine_eq]; try omega)
  | .same a b => by simp only [wtC, spell]; (simp only [Str.length_append, l_open, l_close, l_blank, l_less, l_same, l_not, l_and, l_or, l_pick, l_cols, l_sort, l_first, l_both, l_pair, l_join, l_group, l_picks, l_cb, l_n, l_s, l_bn, l_bs, PySem.sizeLine_eq]; try omega)
  | .no c => by have := wtC_line c; simp only [wtC, spell]; (simp only [Str.length_append, l_open, l_close, l_blank, l_less, l_same, l_not, l_and, l_or, l_pick, l_cols, l_sort, l_first, l_both, l_pair, l_join, l_group, l_picks, l_cb, l_n, l_s, l_bn, l_bs, PySem.sizeLine_eq]; try omega)
  | .an c d => by have := wtC_line c; have := wtC_line d; simp only [wtC, spell]; (simp only [Str.length_append, l_open, l_close, l_blank, l_less, l_same, l_not, l_and, l_or, l_pick, l_cols, l_sort, l_first, l_both, l_pair, l_join, l_group, l_picks, l_cb, l_n, l_s, l_bn, l_bs, PySem.sizeLine_eq]; try omega)
  | .or c d => by have := wtC_line c; have := wtC_line d; simp only [wtC, spell]; (simp only [Str.length_append, l_open, l_close, l_blank, l_less, l_same, l_not, l_and, l_or, l_pick, l_cols, l_sort, l_first, l_both, l_pair, l_join, l_group, l_picks, l_cb, l_n, l_s, l_bn, l_bs, PySem.sizeLine_eq]; try omega)
theorem join_ge : ∀ ns : List Str, ns.length ≤ (Str.join " " ns).length + 1
  | [] => Nat.zero_le _
  | [n] => by simp
  | n :: m :: r => by
    have := join_ge (m :: r)
    show r.length + 1 + 1 ≤ (n ++ " " ++ Str.join " " (m :: r)).length + 1
    rw [List.length_cons] at this
    (simp only [Str.length_append, l_open, l_close, l_blank, l_less, l_same, l_not, l_and, l_or, l_pick, l_cols, l_sort, l_first, l_both, l_pair, l_join, l_group, l_picks, l_cb, l_n, l_s, l_bn, l_bs, PySem.sizeLine_eq]; try omega)
theorem wtQ_line : ∀ q : Qn, wtQ q ≤ 3 * (lineOf q).length + 2
  | .table n => by simp only [wtQ]; omega
  | .pick c q => by have := wtC_line c; have := wtQ_line q; simp only [wtQ, lineOf]; (simp only [Str.length_append, l_open, l_close, l_blank, l_less, l_same, l_not, l_and, l_or, l_pick, l_cols, l_sort, l_first, l_both, l_pair, l_join, l_group, l_picks, l_cb, l_n, l_s, l_bn, l_bs, PySem.sizeLine_eq]; try omega)
  | .cols ns q => by have := join_ge ns; have := wtQ_line q; simp only [wtQ, lineOf]; (simp only [Str.length_append, l_open, l_close, l_blank, l_less, l_same, l_not, l_and, l_or, l_pick, l_cols, l_sort, l_first, l_both, l_pair, l_join, l_group, l_picks, l_cb, l_n, l_s, l_bn, l_bs, PySem.sizeLine_eq]; try omega)
  | .pair q r => by have := wtQ_line q; have := wtQ_line r; simp only [wtQ, lineOf]; (simp only [Str.length_append, l_open, l_close, l_blank, l_less, l_same, l_not, l_and, l_or, l_pick, l_cols, l_sort, l_first, l_both, l_pair, l_join, l_group, l_picks, l_cb, l_n, l_s, l_bn, l_bs, PySem.sizeLine_eq]; try omega)
  | .join a b q r => by have := wtQ_line q; have := wtQ_line r; simp only [wtQ, lineOf]; (simp only [Str.length_append, l_open, l_close, l_blank, l_less, l_same, l_not, l_and, l_or, l_pick, l_cols, l_sort, l_first, l_both, l_pair, l_join, l_group, l_picks, l_cb, l_n, l_s, l_bn, l_bs, PySem.sizeLine_eq]; try omega)
  | .both q r => by have := wtQ_line q; have := wtQ_line r; simp only [wtQ, lineOf]; (simp only [Str.length_append, l_open, l_close, l_blank, l_less, l_same, l_not, l_and, l_or, l_pick, l_cols, l_sort, l_first, l_both, l_pair, l_join, l_group, l_picks, l_cb, l_n, l_s, l_bn, l_bs, PySem.sizeLine_eq]; try omega)
  | .first n q => by have := wtQ_line q; simp only [wtQ, lineOf]; (simp only [Str.length_append, l_open, l_close, l_blank, l_less, l_same, l_not, l_and, l_or, l_pick, l_cols, l_sort, l_first, l_both, l_pair, l_join, l_group, l_picks, l_cb, l_n, l_s, l_bn, l_bs, PySem.sizeLine_eq]; try omega)
  | .group a b n t q => by have := wtQ_line q; simp only [wtQ, lineOf]; (simp only [Str.length_append, l_open, l_close, l_blank, l_less, l_same, l_not, l_and, l_or, l_pick, l_cols, l_sort, l_first, l_both, l_pair, l_join, l_group, l_picks, l_cb, l_n, l_s, l_bn, l_bs, PySem.sizeLine_eq]; try omega)
  | .sort a q => by have := wtQ_line q; simp only [wtQ, lineOf]; (simp only [Str.length_append, l_open, l_close, l_blank, l_less, l_same, l_not, l_and, l_or, l_pick, l_cols, l_sort, l_first, l_both, l_pair, l_join, l_group, l_picks, l_cb, l_n, l_s, l_bn, l_bs, PySem.sizeLine_eq]; try omega)
def spShown (K : PySem.W.Frag) : Sp := fun vs H Q _ => ∃ (v : V) (q : Qn), vs = [v] ∧ QAt H q v ∧ numsQ q ∧ (lineOf q).length ≤ 300000 ∧ ∀ H', Same H H' → Q (.str (lineOf q)) H'
theorem sc_shown : FnScope ["question", "written", "waiting", "part"] ["question"] (defScope s_shown) := ⟨rfl, rfl, rfl, by decide +kernel, rfl, by decide +kernel, by decide +kernel⟩
theorem ok_shown (F : Fun K "shown" "shown" s_shown f fd) (T : Txt K mg) (Cpieces_of : Kn P w K mg base 2 "pieces_of" ["part"] (spPieces K)) : FnOk P w K mg base CX0 3 f fd ["question"] (spShown K) := by
  refine F.ok sc_shown (fun vs H Q E h => ?_) (fun cdv A outer s H vs Q E hr h => ?_)
  · obtain ⟨v, q, rfl, _⟩ := h
    rfl
  obtain ⟨v, q, rfl, hq, hnum, hli, fin⟩ := h
  have hwq := wtQ_line q
  refine ⟨_, (pss_cons (ps_set (i := 1) sc_shown.nd rfl (Or.inl rfl) (pe_lst pa_nil))
    (pss_cons (ps_set (i := 2) sc_shown.nd rfl (Or.inl rfl) (pe_lst (pa_conN (pv 0) pa_nil)))
    (pss_cons (ps_while PassesOwn.never (pt_truth (pv 2) (fun _ => rfl))
      (pss_cons (ps_set (i := 3) sc_shown.nd rfl (Or.inl rfl) (pe_bm0 PySem.F.plainAttrs_list PySem.F.slot_list_pop PySem.F.type_list_pop mt_pop (pv 2)))
      (pss_one (ps_if (pt_val (pe_callB call_isinst rfl T.isinstance PyProof.Rows.boot_isinstance (pa_conN (pv 3) (pa_conN (pe_bltn (v := .ty "tuple") rfl T.tuple PyProof.Rows.boot_tuple rfl) pa_nil))))
        (pss_one (ps_expr (pe_bm PySem.F.plainAttrs_list PySem.F.slot_list_extend PySem.F.type_list_extend mt_extend (pv 2) (pa_conK (pe_listRev rfl rfl T.list rfl T.reversed (pe_callF Cpieces_of (hr.mono (by first | decide | omega)) rfl (pa_conN (pv 3) pa_nil))) pa_nil))))
        (pss_one (ps_expr (pe_bm PySem.F.plainAttrs_list PySem.F.slot_list_append PySem.F.type_list_append mt_append (pv 1) (pa_conK (pe_callTy call_strV rfl T.str PyProof.Rows.boot_str (pa_conN (pv 3) pa_nil)) pa_nil))))))))
    (pss_one (ps_ret (pe_bm PySem.F.plainAttrs_str PySem.F.slot_str_join PySem.F.type_str_join mt_join pe_str (pa_conN (pv 1) pa_nil))))))), ?_⟩
  refine ⟨le_line (by show 0 ≤ _; decide), fun wp hwp => ?_⟩
  refine alloc_rd (upd _ wp _) rfl hwp fun H1 n1 x1 => ?_
  refine ⟨_, rfl, le_line (by show 1 ≤ _; decide), fun tp htp => ?_⟩
  have nwt : wp ≠ tp := ne_of_none x1 htp
  have ftp : H tp = none := n1.free htp
  refine alloc_rd (upd _ tp _) rfl htp fun H2 n2 x2 => ?_
  have s2 := n1.trans n2
  refine gname_rd ?_
  dsimp only
  refine tseq_rd ?_
  refine while_w (fun m σ H' => ∃ (ws : List Str) (its : List (V × Pc)) (o3 : Option V), m = wts its ∧ σ = [some v, some (.ref wp), some (.ref tp), o3] ∧ Same H H' ∧ H' wp = some (.lst (ws.map V.str)) ∧ H' tp = some (.lst (its.map (·.1))) ∧ (∀ it ∈ its, PcAt H' it.2 it.1) ∧ cat ws ++ cat (its.reverse.map fun it => rend it.2) = lineOf q ∧ ws.length + wts its ≤ wtQ q) (wts [(v, Pc.q q)])
    ⟨[], [(v, Pc.q q)], none, rfl, rfl, s2, n2 _ _ x1, x2, fun it m => by rw [List.mem_singleton.mp m]; exact ⟨hq.same s2, hnum⟩, by show Str.empty ++ (lineOf q ++ Str.empty) = lineOf q; rw [Str.empty_append, Str.append_empty], by show 0 + (wtQ q + 0) ≤ _; omega⟩ ?_
  rintro m σ H3 ⟨ws, its, o3, rfl, rfl, s3, hw3, ht3, hit, hcat, hle⟩
  refine ⟨_, rfl, _, .inl ⟨_, SqL.of ht3, rfl⟩, ?_⟩
  by_cases hne : its = []
  · subst hne
    refine ifF (by rfl) ?_
    have e : cat ws = lineOf q := by
      have h0 : cat ws ++ Str.empty = lineOf q := hcat
      rwa [Str.append_empty] at h0
    refine ⟨rfl, _, rfl, _, wp, ws, rfl, rfl, SqL.of hw3, ?_, ?_⟩
    · rw [← cat_len, e]
      have : ("" : Str).length = 0 := by decide +kernel
      rw [this]
      omega
    · rw [join_cat, e]
      exact fin _ s3
  · obtain ⟨gs, g, rfl⟩ := snoc_of hne
    obtain ⟨gv, gp⟩ := g
    refine ifT (by simp) ?_
    refine ⟨_, fun σ' H' z => z, ?_⟩
    rw [snoc_rend] at hcat
    replace hcat : cat ws ++ (rend gp ++ cat (gs.reverse.map fun it => rend it.2)) = lineOf q := hcat
    have e1 : ((gs ++ [(gv, gp)]).map (·.1)) = gs.map (·.1) ++ [gv] := by rw [List.map_append]; rfl
    rw [e1] at ht3
    have ew : wts (gs ++ [(gv, gp)]) = wts gs + wt gp := by rw [wts_app]; rfl
    rw [ew] at hle
    refine ⟨_, rfl, .inl ⟨rfl, _, SqL.of ht3⟩, tp, _, gv, rfl, rfl, ht3, last_of _ _, ?_⟩
    rw [List.dropLast_concat]
    have tm := tup_upd (o := .lst (gs.map (·.1))) ht3
    have hit4 : ∀ it ∈ gs ++ [(gv, gp)], PcAt (upd H3 tp (.lst (gs.map (·.1)))) it.2 it.1 := fun it mm => (hit it mm).mono tm
    have s4 : Same H (upd H3 tp (.lst (gs.map (·.1)))) := s3.put ftp
    have ht4 : upd H3 tp (.lst (gs.map (·.1))) tp = some (.lst (gs.map (·.1))) := upd_same
    have hw4 : upd H3 tp (.lst (gs.map (·.1))) wp = some (.lst (ws.map V.str)) := (upd_ne nwt).trans hw3
    generalize upd H3 tp (.lst (gs.map (·.1))) = H4 at hit4 s4 ht4 hw4 ⊢
    have hg : PcAt H4 gp gv := hit4 _ (List.mem_append_right _ (List.mem_singleton.mpr rfl))
    have hgs : ∀ it ∈ gs, PcAt H4 it.2 it.1 := fun it mm => hit4 it (List.mem_append_left _ mm)
    have lw := wts_len gs
    have wp1 := wt_pos gp
    have write : ∀ x : Str, rend gp = x → ∀ H5, Same H4 H5 → ∀ (o3 : Option V), ws.length < 1000000 → ∃ (ws' : List Str) (its : List (V × Pc)) (o3' : Option V), wts gs = wts its ∧ [some v, some (V.ref wp), some (V.ref tp), o3] = [some v, some (V.ref wp), some (V.ref tp), o3'] ∧ Same H (upd H5 wp (.lst (ws.map V.str ++ [V.str x]))) ∧ upd H5 wp (.lst (ws.map V.str ++ [V.str x])) wp = some (.lst (ws'.map V.str)) ∧ upd H5 wp (.lst (ws.map V.str ++ [V.str x])) tp = some (.lst (its.map (·.1))) ∧ (∀ it ∈ its, PcAt (upd H5 wp (.lst (ws.map V.str ++ [V.str x]))) it.2 it.1) ∧ cat ws' ++ cat (its.reverse.map fun it => rend it.2) = lineOf q ∧ ws'.length + wts its ≤ wtQ q := fun x hx H5 s45 o3 _ => by
      have tm5 := tup_upd (o := .lst (ws.map V.str ++ [V.str x])) (s45 _ _ hw4)
      refine ⟨ws ++ [x], gs, o3, rfl, rfl, (s4.trans s45).put hwp, by rw [upd_same, List.map_append]; rfl, by rw [upd_ne nwt.symm]; exact s45 _ _ ht4, fun it mm => ((hgs it mm).mono fun b xs z => s45 _ _ z).mono tm5, ?_, by rw [List.length_append, List.length_singleton]; omega⟩
      rw [cat_snoc, Str.append_assoc, ← hx]
      exact hcat
    have lws : ws.length < 1000000 := by omega
    have lwl : (ws.map V.str).length < sizeLine := lt_line (by rw [List.length_map]; omega)
    have hop : (∃ x, StrOf gv x ∧ rend gp = x ∧ wt gp = 1 ∧ ∃ t, TyOf K H4 gv t ∧ PySem.W.kitOne K t (.type "tuple") = some false) ∨ Opened H4 gp gv := by
      cases gp with
      | s x =>
        have e : gv = .str x := hg
        subst e
        exact .inl ⟨x, .inr rfl, rfl, rfl, _, TyOf.str x, kit_str_tuple⟩
      | i n =>
        obtain ⟨e, hn⟩ : gv = .int n ∧ n.natAbs.log2 < 1920 := hg
        subst e
        exact .inl ⟨_, .inl ⟨n, rfl, hn, rfl⟩, rfl, rfl, _, TyOf.int n, kit_int_tuple⟩
      | c c => exact .inr (open_c hg)
      | q q' => exact .inr (open_q hg)
    rcases hop with ⟨x, so, rx, w1, t, ty, kit⟩ | ⟨its', ⟨p, xs, rfl, hp⟩, pv, hpc, hrend, hwts⟩
    · refine ⟨_, rfl, _, _, _, _, rfl, ty, kit, _, rfl, ?_⟩
      refine ifF rfl ?_
      refine ⟨_, rfl, .inl ⟨rfl, _, SqL.of hw4⟩, _, rfl, _, x, rfl, so, wp, _, _, rfl, rfl, hw4, lwl, ?_⟩
      obtain ⟨ws', its', o', h1, h2⟩ := write x rx H4 (Same.refl _) (some gv) lws
      exact ⟨wts gs, by rw [ew, w1]; omega, ws', its', o', h1, h2⟩
    · refine ⟨_, rfl, _, _, _, _, rfl, TyOf.tup hp, kit_same, _, rfl, ?_⟩
      refine ifT rfl ?_
      refine ⟨_, rfl, .inl ⟨rfl, _, SqL.of ht4⟩, _, rfl, _, _, rfl, pv, fun l H5 n5 fl x5 => ⟨l, _, rfl, SqL.of x5, fun rv hrv => ?_⟩⟩
      refine alloc_rd (upd _ rv _) rfl hrv fun H6 n6 x6 => ?_
      have n46 := n5.trans n6
      have ht6 := n46 _ _ ht4
      have l2 := wts_len its'
      refine ⟨tp, rv, _, _, rfl, rfl, ht6, x6, le_line (by rw [List.length_map, List.length_reverse, List.length_map]; omega), ?_⟩
      have tm6 := tup_upd (o := .lst (gs.map (·.1) ++ (its'.map (·.1)).reverse)) ht6
      have m46 : ∀ b xs, H4 b = some (.tup xs) → upd H6 tp (.lst (gs.map (·.1) ++ (its'.map (·.1)).reverse)) b = some (.tup xs) := fun b xs z => tm6 _ _ (n46 _ _ z)
      have er : wts its'.reverse = wts its' := by
        unfold wts
        rw [List.map_reverse, List.sum_reverse]
      have en : wts (gs ++ its'.reverse) = wts gs + wts its' := by rw [wts_app, er]
      refine ⟨wts (gs ++ its'.reverse), by rw [ew, en]; omega, ws, gs ++ its'.reverse, _, rfl, rfl, (s4.trans n46).put ftp, by rw [upd_ne nwt]; exact n46 _ _ hw4, by rw [upd_same, List.map_append, List.map_reverse], fun it mm => ?_, ?_, by rw [en]; omega⟩
      · rcases List.mem_append.mp mm with mm | mm
        · exact (hgs it mm).mono m46
        · exact (hpc it (List.mem_reverse.mp mm)).mono m46
      · rw [List.reverse_append, List.reverse_reverse, List.map_append, cat_append, hrend]
        exact hcat
def lowers : Str := "abcdefghijklmnopqrstuvwxyz"
def figs : Str := "0123456789"
def questions : List (Str × List Str) := [("pick", ["condition", "question"]), ("pair", ["question", "question"]), ("join", ["name", "name", "question", "question"]), ("group", ["name", "name", "name", "name", "question"]), ("sort", ["name", "question"]), ("first", ["size", "question"]), ("both", ["question", "question"])]
def conditions : List (Str × List Str) := [("less", ["side", "side"]), ("same", ["side", "side"]), ("not", ["condition"]), ("and", ["condition", "condition"]), ("or", ["condition", "condition"])]
structure TxtR (K : PySem.W.Frag) (mg : Str → Option Value) : Prop where
  letters : ∃ t, mg "LETTERS" = some (.str lowers t)
  figures : ∃ t, mg "FIGURES" = some (.str figs t)
  questions : ∃ a, mg "QUESTIONS" = some (.ref a) ∧ KTabs K a questions
  conditions : ∃ a, mg "CONDITIONS" = some (.ref a) ∧ KTabs K a conditions
theorem emp_eq : ("" : Str) = Str.empty := by decide +kernel
def isNameP (x : Str) : Bool := (!decide (x = "")) && x.cps.toList.all fun c => lowers.cps.contains c
def spName : Sp := fun vs H Q _ => ∃ x : Str, vs = [.str x] ∧ x.length ≤ sizeLine ∧ Q (.bl (isNameP x)) H
theorem sc_is_name : FnScope ["text"] ["text"] (defScope s_is_name) := ⟨rfl, rfl, rfl, by decide +kernel, rfl, by decide +kernel, by decide +kernel⟩
theorem ok_is_name (F : Fun K "is_name" "is_name" s_is_name f fd) (T : Txt K mg) (R : TxtR K mg) : FnOk P w K mg base CX0 1 f fd ["text"] spName := by
  refine F.ok sc_is_name (fun vs H Q E h => ?_) (fun cdv A outer s H vs Q E hr h => ?_)
  · obtain ⟨x, rfl, _⟩ := h
    rfl
  obtain ⟨x, rfl, hx, q⟩ := h
  obtain ⟨tL, hL⟩ := R.letters
  refine ⟨_, (pss_one (ps_ret (pe_and (pe_cmpR op_ne (pv 0) pe_str (nomark _)) (pe_one (pe_cmpR op_eq (pe_bm PySem.F.plainAttrs_str PySem.F.slot_str_strip PySem.F.type_str_strip mt_strip (pv 0) (pa_conN (pe_glob (v := .str lowers) rfl hL ⟨_, rfl⟩) pa_nil)) pe_str (nomark _)))))), ?_⟩
  refine ⟨_, rfl, rfl, _, rfl, ?_⟩
  unfold isNameP at q
  by_cases he : x = ""
  · rw [decide_eq_true he] at q
    refine ifF (by rw [dec_strV, decide_eq_true he]; rfl) ?_
    exact q
  · rw [decide_eq_false he] at q
    refine ifT (by rw [dec_strV, decide_eq_false he]; rfl) ?_
    refine ⟨_, rfl, rfl, _, _, rfl, rfl, hx, rfl, ?_⟩
    rw [dec_strV, emp_eq, strip_is]
    exact q
def figsOf (x : Str) : Str := if Txt.startswith x "-" = true then Txt.slice x (some 1) none else x
def isNumberQ (x fg : Str) : Bool := if (decide (fg = "") || !(fg.cps.toList.all fun c => figs.cps.contains c)) = true then false else decide (x = "0") || !decide (fg.cps.toList.head? = some 48)
def isNumberP (x : Str) : Bool := isNumberQ x (figsOf x)
theorem figsOf_len (x : Str) : (figsOf x).length ≤ x.length := by
  unfold figsOf
  split
  · exact Txt.slice_le x _ _
  · exact Nat.le_refl _
def spNumber : Sp := fun vs H Q _ => ∃ x : Str, vs = [.str x] ∧ x.length ≤ sizeLine ∧ Q (.bl (isNumberP x)) H
theorem zero_eq : ("0" : Str) = ⟨#[48]⟩ := by decide +kernel
theorem minus_eq : ("-" : Str) = ⟨#[45]⟩ := by decide +kernel
theorem sc_is_number : FnScope ["text", "figures"] ["text"] (defScope s_is_number) := ⟨rfl, rfl, rfl, by decide +kernel, rfl, by decide +kernel, by decide +kernel⟩
theorem ok_is_number (F : Fun K "is_number" "is_number" s_is_number f fd) (T : Txt K mg) (R : TxtR K mg) : FnOk P w K mg base CX0 1 f fd ["text"] spNumber := by
  refine F.ok sc_is_number (fun vs H Q E h => ?_) (fun cdv A outer s H vs Q E hr h => ?_)
  · obtain ⟨x, rfl, _⟩ := h
    rfl
  obtain ⟨x, rfl, hx, q⟩ := h
  obtain ⟨tF, hF⟩ := R.figures
  have hfl := figsOf_len x
  refine ⟨_, (pss_cons (ps_set (i := 1) sc_is_number.nd rfl (Or.inl rfl) (pe_ifExp (pt_val (pe_bm PySem.F.plainAttrs_str PySem.F.slot_str_startswith PySem.F.type_str_startswith mt_startswith (pv 0) (pa_conC pe_str pa_nil))) (pe_slice sl_str (pv 0) (po_some pe_int) po_none) (pv 0)))
    (pss_cons (ps_if (pt_orP (pt_cmpR op_eq (pv 1) pe_str (nomark _)) (pt_cmpR op_ne (pe_bm PySem.F.plainAttrs_str PySem.F.slot_str_strip PySem.F.type_str_strip mt_strip (pv 1) (pa_conN (pe_glob (v := .str figs) rfl hF ⟨_, rfl⟩) pa_nil)) pe_str (nomark _)))
      (pss_one (ps_ret pe_bl))
      pss_nil)
    (pss_one (ps_ret (pe_or (pe_cmpR op_eq (pv 0) pe_str (nomark _)) (pe_one (pe_cmpR op_ne (pe_ix ix_str (pv 1) pe_int (fun _ _ => rfl)) pe_str (nomark _)))))))), ?_⟩
  refine ⟨_, rfl, rfl, _, _, rfl, rfl, _, rfl, ?_⟩
  by_cases hs : Txt.startswith x "-" = true
  · refine ifT hs ?_
    have q1 : Q (.bl (isNumberQ x (Txt.slice x (some 1) none))) H := by
      unfold isNumberP figsOf at q
      rw [if_pos hs] at q
      exact q
    have hl1 : (Txt.slice x (some 1) none).length ≤ sizeLine := Nat.le_trans (Txt.slice_le x _ _) hx
    refine ⟨_, rfl, _, rfl, x, rfl, hx, ?_⟩
    generalize Txt.slice x (some 1) none = fg at q1 hl1 ⊢
    refine ⟨_, rfl, rfl, _, rfl, _, ⟨_, rfl, rfl, _, _, rfl, rfl, hl1, rfl, _, rfl, rfl, rfl⟩, ?_⟩
    have e1 : (decide (V.str fg = V.str "") || !decide (V.str (Txt.stripChars fg figs) = V.str "")) = (decide (fg = "") || !(fg.cps.toList.all fun c => figs.cps.contains c)) := by
      rw [dec_strV, dec_strV, emp_eq, strip_is]
    rw [e1]
    unfold isNumberQ at q1
    by_cases hb : (decide (fg = "") || !(fg.cps.toList.all fun c => figs.cps.contains c)) = true
    · rw [if_pos hb] at q1
      exact ifT hb q1
    · rw [if_neg hb] at q1
      refine ifF (by simpa using hb) ?_
      refine ⟨_, rfl, rfl, _, rfl, ?_⟩
      by_cases h0 : x = "0"
      · rw [decide_eq_true h0, Bool.true_or] at q1
        exact ifT (by rw [dec_strV, decide_eq_true h0]) q1
      · rw [decide_eq_false h0, Bool.false_or] at q1
        refine ifF (by rw [dec_strV, decide_eq_false h0]) ?_
        have hne : fg.cps.toList ≠ [] := fun e => hb (by
          rw [decide_eq_true (str_ext e : fg = ""), Bool.true_or])
        obtain ⟨c, r, ecr⟩ : ∃ c r, fg.cps.toList = c :: r := by
          cases q : fg.cps.toList with
          | nil => exact absurd q hne
          | cons c r => exact ⟨c, r, rfl⟩
        refine ⟨_, rfl, _, _, c, rfl, rfl, hl1, by rw [ecr]; exact atI0, rfl, ?_⟩
        rw [dec_strV, zero_eq]
        have e2 : decide ((⟨#[c]⟩ : Str) = ⟨#[48]⟩) = decide (fg.cps.toList.head? = some 48) := by
          rw [ecr, Bool.eq_iff_iff]
          simp
        rw [e2]
        exact q1
  · refine ifF (by simpa using hs) ?_
    have q1 : Q (.bl (isNumberQ x x)) H := by
      unfold isNumberP figsOf at q
      rw [if_neg hs] at q
      exact q
    have hl1 := hx
    refine ⟨_, rfl, ?_⟩
    refine ⟨_, rfl, rfl, _, rfl, _, ⟨_, rfl, rfl, _, _, rfl, rfl, hl1, rfl, _, rfl, rfl, rfl⟩, ?_⟩
    have e1 : (decide (V.str x = V.str "") || !decide (V.str (Txt.stripChars x figs) = V.str "")) = (decide (x = "") || !(x.cps.toList.all fun c => figs.cps.contains c)) := by
      rw [dec_strV, dec_strV, emp_eq, strip_is]
    rw [e1]
    unfold isNumberQ at q1
    by_cases hb : (decide (x = "") || !(x.cps.toList.all fun c => figs.cps.contains c)) = true
    · rw [if_pos hb] at q1
      exact ifT hb q1
    · rw [if_neg hb] at q1
      refine ifF (by simpa using hb) ?_
      refine ⟨_, rfl, rfl, _, rfl, ?_⟩
      by_cases h0 : x = "0"
      · rw [decide_eq_true h0, Bool.true_or] at q1
        exact ifT (by rw [dec_strV, decide_eq_true h0]) q1
      · rw [decide_eq_false h0, Bool.false_or] at q1
        refine ifF (by rw [dec_strV, decide_eq_false h0]) ?_
        have hne : x.cps.toList ≠ [] := fun e => hb (by
          rw [decide_eq_true (str_ext e : x = ""), Bool.true_or])
        obtain ⟨c, r, ecr⟩ : ∃ c r, x.cps.toList = c :: r := by
          cases q : x.cps.toList with
          | nil => exact absurd q hne
          | cons c r => exact ⟨c, r, rfl⟩
        refine ⟨_, rfl, _, _, c, rfl, rfl, hl1, by rw [ecr]; exact atI0, rfl, ?_⟩
        rw [dec_strV, zero_eq]
        have e2 : decide ((⟨#[c]⟩ : Str) = ⟨#[48]⟩) = decide (x.cps.toList.head? = some 48) := by
          rw [ecr, Bool.eq_iff_iff]
          simp
        rw [e2]
        exact q1
def numVal (l : List Nat) : Nat := l.foldl (fun acc c => acc * 10 + (c - 48)) 0
def numberP (x : Str) : Int := if Txt.startswith x "-" = true then -((numVal (figsOf x).cps.toList : Nat) : Int) else ((numVal (figsOf x).cps.toList : Nat) : Int)
theorem fig_mem : ∀ c : Nat, figs.cps.contains c = true → 48 ≤ c ∧ c ≤ 57 := by
  intro c h
  have h2 : c ∈ figs.cps.toList := by simpa using h
  have h3 : figs.cps.toList = [48, 49, 50, 51, 52, 53, 54, 55, 56, 57] := by decide +kernel
  rw [h3] at h2
  simp only [List.mem_cons, List.not_mem_nil, or_false] at h2
  omega
theorem mem_fig : ∀ c : Nat, 48 ≤ c ∧ c ≤ 57 → figs.cps.contains c = true := by
  intro c h
  have h3 : ∀ d : Nat, d < 10 → figs.cps.contains (48 + d) = true := by decide +kernel
  have := h3 (c - 48) (by omega)
  rwa [show 48 + (c - 48) = c by omega] at this
theorem numbers_are {x : Str} (h : isNumberP x = true) : figsOf x ≠ "" ∧ (∀ c ∈ (figsOf x).cps.toList, 48 ≤ c ∧ c ≤ 57) ∧ (x = "0" ∨ (figsOf x).cps.toList.head? ≠ some 48) := by
  unfold isNumberP isNumberQ at h
  by_cases hb : (decide (figsOf x = "") || !((figsOf x).cps.toList.all fun c => figs.cps.contains c)) = true
  · rw [if_pos hb] at h
    cases h
  · rw [if_neg hb] at h
    simp only [Bool.or_eq_true, decide_eq_true_eq, Bool.not_eq_true', not_or, Bool.not_eq_false] at hb
    refine ⟨hb.1, fun c hc => fig_mem c (List.all_eq_true.mp hb.2 c hc), ?_⟩
    simpa using h
theorem lstrip_figs {x : Str} (h : isNumberP x = true) : Txt.lstripChars x "-" = figsOf x := by
  obtain ⟨h1, h2, _⟩ := numbers_are h
  have hm : ∀ c : Nat, (("-" : Str).cps.contains c) = decide (c = 45) := by
    intro c
    rw [minus_eq]
    simp
  have hb : ∀ {b : List Nat}, (∀ c ∈ b, 48 ≤ c ∧ c ≤ 57) → ∀ c, b.head? = some c → (("-" : Str).cps.contains c) = false := fun hb c hc => by
    have := hb c (List.mem_of_mem_head? hc)
    rw [hm]
    simp
    omega
  by_cases hs : Txt.startswith x "-" = true
  · rw [minus_eq, starts_is] at hs
    have hh := of_decide_eq_true hs
    cases q : x.cps.toList with
    | nil => rw [q] at hh; cases hh
    | cons c r =>
      rw [q] at hh
      have e : c = 45 := Option.some.inj hh
      subst e
      have ef : figsOf x = tx r := by
        unfold figsOf
        rw [minus_eq, starts_is, if_pos (decide_eq_true (by rw [q]; rfl))]
        exact tail_is q
      rw [ef] at h2 ⊢
      exact lstrip_is (a := [45]) (b := r) q (fun c hc => by rw [List.mem_singleton.mp hc, hm]; rfl) (hb h2)
  · have ef : figsOf x = x := by
      unfold figsOf
      rw [if_neg hs]
    rw [ef] at h2 ⊢
    have := lstrip_is (g := ("-" : Str).cps.contains) (x := x) (a := []) (b := x.cps.toList) rfl (fun c hc => by cases hc) (hb h2)
    rw [tx_list] at this
    exact this
def spNumFrom : Sp := fun vs H Q _ => ∃ x : Str, vs = [.str x] ∧ x.length ≤ sizeLine ∧ isNumberP x = true ∧ Q (.int (numberP x)) H
theorem numVal_snoc (l : List Nat) (c : Nat) : numVal (l ++ [c]) = numVal l * 10 + (c - 48) := by
  unfold numVal
  rw [List.foldl_append]
  rfl
theorem sc_number_from : FnScope ["text", "number", "figure"] ["text"] (defScope s_number_from) := ⟨rfl, rfl, rfl, by decide +kernel, rfl, by decide +kernel, by decide +kernel⟩
theorem ok_number_from (F : Fun K "number_from" "number_from" s_number_from f fd) (T : Txt K mg) (R : TxtR K mg) : FnOk P w K mg base CX0 1 f fd ["text"] spNumFrom := by
  refine F.ok sc_number_from (fun vs H Q E h => ?_) (fun cdv A outer s H vs Q E hr h => ?_)
  · obtain ⟨x, rfl, _⟩ := h
    rfl
  obtain ⟨x, rfl, hx, hn, q⟩ := h
  obtain ⟨tF, hF⟩ := R.figures
  have hl := lstrip_figs hn
  obtain ⟨h1, h2, h3⟩ := numbers_are hn
  refine ⟨_, (pss_cons (ps_set (i := 1) sc_number_from.nd rfl (Or.inl rfl) pe_int)
    (pss_cons (ps_for PassesOwn.never rfl (pi_str (pe_bm PySem.F.plainAttrs_str PySem.F.slot_str_lstrip PySem.F.type_str_lstrip mt_lstrip (pv 0) (pa_conC pe_str pa_nil))) (pg_name (i := 2) sc_number_from.nd rfl (Or.inl rfl))
      (pss_one (ps_set (i := 1) sc_number_from.nd rfl (Or.inl rfl) (pe_op op_add (pe_op op_mul (pv 1) pe_int) (pe_bm PySem.F.plainAttrs_str PySem.F.slot_str_index PySem.F.type_str_index mt_sindex (pe_glob (v := .str figs) rfl hF ⟨_, rfl⟩) (pa_conN (pv 2) pa_nil))))))
    (pss_one (ps_ret (pe_ifExp (pt_val (pe_bm PySem.F.plainAttrs_str PySem.F.slot_str_startswith PySem.F.type_str_startswith mt_startswith (pv 0) (pa_conC pe_str pa_nil))) (pe_un un_neg (pv 1)) (pv 1)))))), ?_⟩
  refine ⟨_, rfl, rfl, _, _, rfl, rfl, hx, _, rfl, ?_⟩
  rw [hl]
  refine for_str (fun i σ H' => ∃ o : Option V, σ = [some (.str x), some (.int ((numVal ((figsOf x).cps.toList.take i) : Nat) : Int)), o] ∧ H' = H) ⟨none, rfl, rfl⟩ ?_ ?_
  · rintro i c σ H' hc ⟨o, rfl, rfl⟩
    have hc' : (figsOf x).cps.toList[i]? = some c := by rw [Array.getElem?_toList]; exact hc
    obtain ⟨c1, c2⟩ := h2 c (List.mem_of_getElem? hc')
    have ho := fig_at (c - 48) (by omega)
    rw [show 48 + (c - 48) = c by omega] at ho
    refine ⟨_, rfl, _, _, rfl, rfl, .inr ⟨by decide, by decide⟩, rfl, _, rfl, _, _, _, _, rfl, rfl, ho, _, _, rfl, rfl, some (V.str ⟨#[c]⟩), ?_, rfl⟩
    show [some (V.str x), some (V.int ((numVal ((figsOf x).cps.toList.take i) : Nat) * 10 + ((c - 48 : Nat) : Int))), some (V.str ⟨#[c]⟩)] = _
    have e : ((numVal ((figsOf x).cps.toList.take (i + 1)) : Nat) : Int) = ((numVal ((figsOf x).cps.toList.take i) : Nat) : Int) * 10 + ((c - 48 : Nat) : Int) := by
      rw [List.take_add_one, hc']
      show ((numVal ((figsOf x).cps.toList.take i ++ [c]) : Nat) : Int) = _
      rw [numVal_snoc]
      omega
    rw [e]
  · rintro σ H' ⟨o, rfl, rfl⟩
    have e : (figsOf x).cps.toList.take (figsOf x).cps.size = (figsOf x).cps.toList := List.take_of_length_le (by simp)
    rw [e]
    refine ⟨_, rfl, rfl, _, _, rfl, rfl, _, rfl, ?_⟩
    unfold numberP at q
    by_cases hs : Txt.startswith x "-" = true
    · rw [if_pos hs] at q
      refine ifT hs ?_
      exact ⟨_, rfl, _, rfl, q⟩
    · rw [if_neg hs] at q
      refine ifF (by simpa using hs) ?_
      exact ⟨_, rfl, q⟩
def formOfP (w : Str) : Str := if (tabAt conditions w).isSome = true then "condition" else "question"
def spFormOf (K : PySem.W.Frag) : Sp := fun vs H Q _ => ∃ (p : Addr) (w : Str) (r : List V), vs = [.ref p] ∧ H p = some (.tup (.str w :: r)) ∧ Q (.str (formOfP w)) H
theorem sc_form_of : FnScope ["part"] ["part"] (defScope s_form_of) := ⟨rfl, rfl, rfl, by decide +kernel, rfl, by decide +kernel, by decide +kernel⟩
theorem ok_form_of (F : Fun K "form_of" "form_of" s_form_of f fd) (T : Txt K mg) (R : TxtR K mg) : FnOk P w K mg base CX0 1 f fd ["part"] (spFormOf K) := by
  refine F.ok sc_form_of (fun vs H Q E h => ?_) (fun cdv A outer s H vs Q E hr h => ?_)
  · obtain ⟨p, w, r, rfl, _⟩ := h
    rfl
  obtain ⟨p, w', r, rfl, hp, q⟩ := h
  obtain ⟨ca, hC, tC'⟩ := R.conditions
  refine ⟨_, (pss_one (ps_ret (pe_ifExp (pt_cmpR op_in_tab (pe_ix ix_tup (pv 0) pe_int (fun _ _ => rfl)) (pe_glob (v := .ref ca) rfl hC rfl) (by with_unfolding_all rfl)) pe_str pe_str))), ?_⟩
  refine ⟨_, rfl, p, _, _, _, rfl, rfl, SqT.of hp, atI0, _, _, _, rfl, rfl, tC', _, rfl, ?_⟩
  unfold formOfP at q
  by_cases hs : (tabAt conditions w').isSome = true
  · rw [if_pos hs] at q
    exact ifT hs q
  · rw [if_neg hs] at q
    exact ifF (by simpa using hs) q
def takenP (form : Str) : Tr → Option Tr
  | .t (.cons (.s w) r) => if form = formOfP w then some (.t (.cons (.s w) r)) else none
  | .s x => if isNameP x = true then (if form = "question" then some (.t (.cons (.s "table") (.cons (.s x) .nil))) else if form = "name" ∨ form = "side" then some (.s x) else none)
    else if isNumberP x = true then (if form = "side" ∨ (form = "size" ∧ Txt.startswith x "-" = false) then some (.i (numberP x)) else none) else none
  | _ => none
def shortT (t : Tr) : Prop := ∀ x, t = .s x → x.length ≤ sizeLine
def spTaken (K : PySem.W.Frag) : Sp := fun vs H Q _ => ∃ (form : Str) (v : V) (t t' : Tr), vs = [.str form, v] ∧ TrAt H t v ∧ takenP form t = some t' ∧ shortT t ∧ ∀ v' H', Same H H' → TrAt H' t' v' → Q v' H'
theorem sc_taken : FnScope ["form", "part"] ["form", "part"] (defScope s_taken) := ⟨rfl, rfl, rfl, by decide +kernel, rfl, by decide +kernel, by decide +kernel⟩
theorem ok_taken (F : Fun K "taken" "taken" s_taken f fd) (T : Txt K mg) (R : TxtR K mg) (Cform_of : Kn P w K mg base 1 "form_of" ["part"] (spFormOf K)) (Cis_name : Kn P w K mg base 1 "is_name" ["text"] spName) (Cis_number : Kn P w K mg base 1 "is_number" ["text"] spNumber) (Cnumber_from : Kn P w K mg base 1 "number_from" ["text"] spNumFrom) : FnOk P w K mg base CX0 2 f fd ["form", "part"] (spTaken K) := by
  refine F.ok sc_taken (fun vs H Q E h => ?_) (fun cdv A outer s H vs Q E hr h => ?_)
  · obtain ⟨form, v, t, t', rfl, _⟩ := h
    rfl
  obtain ⟨form, v, t, t', rfl, ht, hk, hsh, q⟩ := h
  refine ⟨_, (pss_cons (ps_if (pt_val (pe_callB call_isinst rfl T.isinstance PyProof.Rows.boot_isinstance (pa_conN (pv 1) (pa_conN (pe_bltn (v := .ty "tuple") rfl T.tuple PyProof.Rows.boot_tuple rfl) pa_nil))))
      (pss_one (ps_if (pt_cmpR op_eq (pv 0) (pe_callF Cform_of (hr.mono (by first | decide | omega)) rfl (pa_conN (pv 1) pa_nil)) (nomark _))
        (pss_one (ps_ret (pv 1)))
        pss_nil))
      (pss_one (ps_if (pt_val (pe_callF Cis_name (hr.mono (by first | decide | omega)) rfl (pa_conN (pv 1) pa_nil)))
        (pss_cons (ps_if (pt_cmpR op_eq (pv 0) pe_str (nomark _))
          (pss_one (ps_ret (pe_tup (pa_conC pe_str (pa_conN (pv 1) pa_nil)))))
          pss_nil)
        (pss_one (ps_if (pt_cmpR op_in_seq (pv 0) (pe_tup (pa_conC pe_str (pa_conC pe_str pa_nil))) (by with_unfolding_all rfl))
          (pss_one (ps_ret (pv 1)))
          pss_nil)))
        (pss_one (ps_if (pt_val (pe_callF Cis_number (hr.mono (by first | decide | omega)) rfl (pa_conN (pv 1) pa_nil)))
          (pss_one (ps_if (pt_orP (pt_cmpR op_eq (pv 0) pe_str (nomark _)) (pt_andP (pt_cmpR op_eq (pv 0) pe_str (nomark _)) (pt_not (pt_val (pe_bm PySem.F.plainAttrs_str PySem.F.slot_str_startswith PySem.F.type_str_startswith mt_startswith (pv 1) (pa_conC pe_str pa_nil))))))
            (pss_one (ps_ret (pe_callF Cnumber_from (hr.mono (by first | decide | omega)) rfl (pa_conN (pv 1) pa_nil))))
            pss_nil))
          pss_nil)))))
    (pss_one ps_never)), ?_⟩
  cases t with
  | i n => cases hk
  | t l =>
    cases l with
    | nil => cases hk
    | cons a r =>
      cases a with
      | i n => cases hk
      | t l => cases hk
      | s w' =>
        have ht0 := ht
        simp only [TrAt, TrsAt] at ht
        obtain ⟨p, vs, rfl, hp, v0, ws, rfl, rfl, hws⟩ := ht
        simp only [takenP] at hk
        by_cases hf : form = formOfP w'
        · rw [if_pos hf] at hk
          cases hk
          refine ⟨_, rfl, _, _, _, _, rfl, TyOf.tup hp, kit_same, _, rfl, ?_⟩
          refine ifT rfl ?_
          refine ⟨_, rfl, _, rfl, p, w', _, rfl, hp, rfl, _, rfl, ?_⟩
          refine ifT (by rw [dec_strV, decide_eq_true hf]) ?_
          exact ⟨_, rfl, q _ _ (Same.refl _) ht0⟩
        · rw [if_neg hf] at hk
          cases hk
  | s x =>
    simp only [TrAt] at ht
    subst ht
    have hx := hsh x rfl
    simp only [takenP] at hk
    refine ⟨_, rfl, _, _, _, _, rfl, TyOf.str x, kit_str_tuple, _, rfl, ?_⟩
    refine ifF rfl ?_
    refine ⟨_, rfl, x, rfl, hx, _, rfl, ?_⟩
    by_cases hnm : isNameP x = true
    · rw [if_pos hnm] at hk
      refine ifT hnm ?_
      refine ⟨_, rfl, rfl, _, rfl, ?_⟩
      by_cases hq : form = "question"
      · rw [if_pos hq] at hk
        cases hk
        refine ifT (by rw [dec_strV, decide_eq_true hq]) ?_
        refine ⟨_, rfl, le_line (by show 2 ≤ _; decide), fun p hp => ?_⟩
        refine alloc_rd (upd _ p _) rfl hp fun H1 n1 x1 => ?_
        refine q _ _ n1 ?_
        simp only [TrAt, TrsAt]
        exact ⟨p, _, rfl, x1, _, _, rfl, rfl, _, _, rfl, rfl, rfl⟩
      · rw [if_neg hq] at hk
        refine ifF (by rw [dec_strV, decide_eq_false hq]) ?_
        by_cases hns : form = "name" ∨ form = "side"
        · rw [if_pos hns] at hk
          cases hk
          refine ⟨_, rfl, le_line (by show 2 ≤ _; decide), fun p hp => ?_⟩
          refine alloc_rd (upd _ p _) rfl hp fun H1 n1 x1 => ?_
          refine ⟨p, _, rfl, .inr (SqT.of x1), rfl, rfl, _, rfl, ?_⟩
          refine ifT ?_ ?_
          · rcases hns with e | e <;> subst e <;> decide +kernel
          · refine ⟨_, rfl, q _ _ n1 ?_⟩
            simp only [TrAt]
        · rw [if_neg hns] at hk
          cases hk
    · rw [if_neg hnm] at hk
      refine ifF (by simpa using hnm) ?_
      refine ⟨_, rfl, x, rfl, hx, _, rfl, ?_⟩
      by_cases hnu : isNumberP x = true
      · rw [if_pos hnu] at hk
        refine ifT hnu ?_
        refine ⟨_, rfl, rfl, _, rfl, _, ⟨_, rfl, rfl, _, rfl, _, ⟨_, rfl, rfl, _, _, rfl, rfl, _, rfl, rfl, rfl⟩, rfl, rfl⟩, ?_⟩
        by_cases hc : form = "side" ∨ (form = "size" ∧ Txt.startswith x "-" = false)
        · rw [if_pos hc] at hk
          cases hk
          refine ifT ?_ ?_
          · rw [dec_strV, dec_strV]
            rcases hc with e | ⟨e, e2⟩
            · rw [decide_eq_true e, Bool.true_or]
            · rw [decide_eq_true e, e2]
              simp
          · refine ⟨_, rfl, x, rfl, hx, hnu, q _ _ (Same.refl _) ?_⟩
            simp only [TrAt]
        · rw [if_neg hc] at hk
          cases hk
      · rw [if_neg hnu] at hk
        cases hk
def formsP (word : Str) (n : Nat) : Option (List Str) := if word = "cols" then some (List.replicate (max (n - 1) 1) ("name" : Str) ++ [("question" : Str)]) else match tabAt questions word with
  | some fs => some fs
  | none => tabAt conditions word
def spForms (K : PySem.W.Frag) : Sp := fun vs H Q _ => ∃ (word : Str) (n : Nat) (fs : List Str), vs = [.str word, .int ((n : Nat) : Int)] ∧ formsP word n = some fs ∧ n ≤ 900000 ∧ ∀ b H', Same H H' → SqT K H' b (fs.map V.str) → Q (.ref b) H'
theorem tab_len {D : List (Str × List Str)} (h : ∀ p ∈ D, p.2.length ≤ 10) {k : Str} {xs : List Str} (e : tabAt D k = some xs) : xs.length ≤ 10 := by
  unfold tabAt at e
  exact h _ (PySem.mem_of_lookup e)
theorem rep_flat (k : Nat) (v : V) : (List.replicate k [v]).flatten = List.replicate k v := by
  induction k with
  | zero => rfl
  | succ k ih => rw [List.replicate_succ, List.flatten_cons, ih]; rfl
theorem sc_forms_behind : FnScope ["word", "count"] ["word", "count"] (defScope s_forms_behind) := ⟨rfl, rfl, rfl, by decide +kernel, rfl, by decide +kernel, by decide +kernel⟩
theorem ok_forms_behind (F : Fun K "forms_behind" "forms_behind" s_forms_behind f fd) (T : Txt K mg) (R : TxtR K mg) : FnOk P w K mg base CX0 1 f fd ["word", "count"] (spForms K) := by
  refine F.ok sc_forms_behind (fun vs H Q E h => ?_) (fun cdv A outer s H vs Q E hr h => ?_)
  · obtain ⟨word, n, fs, rfl, _⟩ := h
    rfl
  obtain ⟨word, n, fs, rfl, hf, hn, q⟩ := h
  obtain ⟨ca, hC, tC'⟩ := R.conditions
  obtain ⟨qa, hQ, tQ'⟩ := R.questions
  refine ⟨_, (pss_cons (ps_if (pt_cmpR op_eq (pv 0) pe_str (nomark _))
      (pss_one (ps_ret (pe_op op_catT (pe_op op_repT (pe_tup (pa_conC pe_str pa_nil)) (pe_callB (call_max2 rfl) rfl T.max PyProof.Rows.boot_max (pa_conB (pe_op op_sub (pv 1) pe_int) (pa_conC pe_int pa_nil)))) (pe_tup (pa_conC pe_str pa_nil)))))
      pss_nil)
    (pss_cons (ps_if (pt_cmpR op_in_tab (pv 0) (pe_glob (v := .ref qa) rfl hQ rfl) (by with_unfolding_all rfl))
      (pss_one (ps_ret (pe_ix ix_tab (pe_glob (v := .ref qa) rfl hQ rfl) (pv 0) (fun _ _ => rfl))))
      pss_nil)
    (pss_cons (ps_if (pt_cmpR op_in_tab (pv 0) (pe_glob (v := .ref ca) rfl hC rfl) (by with_unfolding_all rfl))
      (pss_one (ps_ret (pe_ix ix_tab (pe_glob (v := .ref ca) rfl hC rfl) (pv 0) (fun _ _ => rfl))))
      pss_nil)
    (pss_one ps_never)))), ?_⟩
  unfold formsP at hf
  refine ⟨_, rfl, rfl, _, rfl, ?_⟩
  by_cases hw : word = "cols"
  · rw [if_pos hw] at hf
    cases hf
    refine ifT (by rw [dec_strV, decide_eq_true hw]) ?_
    refine ⟨le_line (by show 1 ≤ _; decide), fun p1 hp1 => ?_⟩
    refine alloc_rd (upd _ p1 _) rfl hp1 fun H1 n1 x1 => ?_
    refine ⟨_, rfl, _, _, rfl, rfl, _, _, rfl, ?_⟩
    have ek : (if (1 : Int) > (n : Int) - 1 then (1 : Int) else (n : Int) - 1) = ((max (n - 1) 1 : Nat) : Int) := by
      split <;> omega
    rw [ek]
    have hk1 : 1 ≤ max (n - 1) 1 := Nat.le_max_right _ _
    have hk2 : max (n - 1) 1 ≤ 900001 := by omega
    generalize max (n - 1) 1 = k at hk1 hk2 q ⊢
    refine ⟨p1, _, _, rfl, rfl, SqT.of x1, by simp, by omega, le_line (by show 1 * _ ≤ _; omega), fun e1 => ?_, fun e1 p2 hp2 => ?_⟩
    · have ek1 : k = 1 := by omega
      subst ek1
      refine ⟨le_line (by show 1 ≤ _; decide), fun p3 hp3 => ?_⟩
      refine alloc_rd (upd _ p3 _) rfl hp3 fun H3 n3 x3 => ?_
      refine ⟨p1, p3, _, _, rfl, rfl, SqT.of (n3 _ _ x1), SqT.of x3, by simp, le_line (by show 1 + 1 ≤ _; decide), fun z => absurd z (by simp), fun _ p4 hp4 => ?_⟩
      refine alloc_rd (upd _ p4 _) rfl hp4 fun H4 n4 x4 => ?_
      exact q p4 H4 (n1.trans (n3.trans n4)) (SqT.of x4)
    · rw [show ((k : Nat) : Int).toNat = k by omega, rep_flat] at *
      refine alloc_rd (upd _ p2 _) rfl hp2 fun H2 n2 x2 => ?_
      refine ⟨le_line (by show 1 ≤ _; decide), fun p3 hp3 => ?_⟩
      refine alloc_rd (upd _ p3 _) rfl hp3 fun H3 n3 x3 => ?_
      refine ⟨p2, p3, _, _, rfl, rfl, SqT.of (n3 _ _ x2), SqT.of x3, ?_, le_line ?_, fun z => absurd z (by simp), fun _ p4 hp4 => ?_⟩
      · intro e
        have := congrArg List.length e
        rw [List.length_replicate] at this
        simp at this
        omega
      · rw [List.length_replicate]
        show k + 1 ≤ _
        omega
      refine alloc_rd (upd _ p4 _) rfl hp4 fun H4 n4 x4 => ?_
      refine q p4 H4 (n1.trans (n2.trans (n3.trans n4))) (SqT.of ?_)
      rw [x4, List.map_append, List.map_replicate]
      rfl
  · rw [if_neg hw] at hf
    refine ifF (by rw [dec_strV, decide_eq_false hw]) ?_
    refine ⟨_, rfl, _, _, _, rfl, rfl, tQ', _, rfl, ?_⟩
    cases e1 : tabAt questions word with
    | some xs =>
      rw [e1] at hf
      cases hf
      refine ifT rfl ?_
      have hl := tab_len (D := questions) (by decide +kernel) e1
      refine ⟨_, rfl, _, _, _, _, rfl, rfl, tQ', e1, le_line (by omega), fun b hb => q b H (Same.refl _) hb⟩
    | none =>
      rw [e1] at hf
      refine ifF rfl ?_
      refine ⟨_, rfl, _, _, _, rfl, rfl, tC', _, rfl, ?_⟩
      have hf' : tabAt conditions word = some fs := hf
      rw [hf']
      refine ifT rfl ?_
      have hl := tab_len (D := conditions) (by decide +kernel) hf'
      exact ⟨_, rfl, _, _, _, _, rfl, rfl, tC', hf', le_line (by omega), fun b hb => q b H (Same.refl _) hb⟩
def Trs.of : List Tr → Trs
  | [] => .nil
  | a :: r => .cons a (Trs.of r)
inductive AllAt (H : Hp) : List Tr → List V → Prop
  | nil : AllAt H [] []
  | cons {t : Tr} {v : V} {ts : List Tr} {vs : List V} : TrAt H t v → AllAt H ts vs → AllAt H (t :: ts) (v :: vs)
theorem AllAt.trs {H : Hp} : ∀ {ts : List Tr} {vs : List V}, AllAt H ts vs → TrsAt H (Trs.of ts) vs
  | _, _, .nil => by simp only [Trs.of, TrsAt]
  | _, _, .cons h r => by
    simp only [Trs.of, TrsAt]
    exact ⟨_, _, rfl, h, r.trs⟩
theorem AllAt.same {H H' : Hp} (e : Same H H') : ∀ {ts : List Tr} {vs : List V}, AllAt H ts vs → AllAt H' ts vs
  | _, _, .nil => .nil
  | _, _, .cons h r => .cons (h.same e) (r.same e)
theorem AllAt.mono {H H' : Hp} (e : ∀ b xs, H b = some (.tup xs) → H' b = some (.tup xs)) : ∀ {ts : List Tr} {vs : List V}, AllAt H ts vs → AllAt H' ts vs
  | _, _, .nil => .nil
  | _, _, .cons h r => .cons (h.mono e) (r.mono e)
theorem AllAt.len {H : Hp} : ∀ {ts : List Tr} {vs : List V}, AllAt H ts vs → ts.length = vs.length
  | _, _, .nil => rfl
  | _, _, .cons _ r => by simp only [List.length_cons, r.len]
theorem AllAt.snoc {H : Hp} {t : Tr} {v : V} (h : TrAt H t v) : ∀ {ts : List Tr} {vs : List V}, AllAt H ts vs → AllAt H (ts ++ [t]) (vs ++ [v])
  | _, _, .nil => .cons h .nil
  | _, _, .cons a r => .cons a (AllAt.snoc h r)
theorem AllAt.get {H : Hp} : ∀ {ts : List Tr} {vs : List V} {i : Nat} {v : V}, AllAt H ts vs → vs[i]? = some v → ∃ t, ts[i]? = some t ∧ TrAt H t v
  | _, _, 0, v, .cons a r, e => by
    have e' : some _ = some v := e
    cases e'
    exact ⟨_, rfl, a⟩
  | _, _, i + 1, v, .cons a r, e => r.get (i := i) e
theorem AllAt.split {H : Hp} : ∀ {ts : List Tr} {vs : List V} {t : Tr}, AllAt H (ts ++ [t]) vs → ∃ ws v, vs = ws ++ [v] ∧ AllAt H ts ws ∧ TrAt H t v
  | [], _, t, .cons h .nil => ⟨[], _, rfl, .nil, h⟩
  | a :: ts, _, t, .cons h r => by
    obtain ⟨ws, v, rfl, h1, h2⟩ := AllAt.split r
    exact ⟨_ :: ws, v, rfl, .cons h h1, h2⟩
def keptP : List Str → List Tr → Option (List Tr)
  | f :: fs, t :: ts => match takenP f t, keptP fs ts with
    | some a, some r => some (a :: r)
    | _, _ => none
  | [], [] => some []
  | _, _ => none
theorem kept_len : ∀ {fs : List Str} {ts ks : List Tr}, keptP fs ts = some ks → fs.length = ts.length ∧ ks.length = ts.length
  | [], [], ks, h => by cases h; exact ⟨rfl, rfl⟩
  | [], _ :: _, ks, h => by cases h
  | _ :: _, [], ks, h => by cases h
  | f :: fs, t :: ts, ks, h => by
    unfold keptP at h
    cases h1 : takenP f t with
    | none => rw [h1] at h; cases h
    | some a =>
      cases h2 : keptP fs ts with
      | none => rw [h1, h2] at h; cases h
      | some r =>
        rw [h1, h2] at h
        cases h
        have := kept_len h2
        exact ⟨by simp only [List.length_cons, this.1], by simp only [List.length_cons, this.2]⟩
theorem kept_get : ∀ {fs : List Str} {ts ks : List Tr} {i : Nat} {f : Str} {t : Tr}, keptP fs ts = some ks → fs[i]? = some f → ts[i]? = some t → ∃ k, ks[i]? = some k ∧ takenP f t = some k
  | [], _, _, i, _, _, _, hf, _ => by simp at hf
  | _ :: _, [], _, i, _, _, _, _, ht => by simp at ht
  | f :: fs, t :: ts, ks, i, f', t', h, hf, ht => by
    unfold keptP at h
    cases h1 : takenP f t with
    | none => rw [h1] at h; cases h
    | some a =>
      cases h2 : keptP fs ts with
      | none => rw [h1, h2] at h; cases h
      | some r =>
        rw [h1, h2] at h
        cases h
        cases i with
        | zero =>
          have e1 : some f = some f' := hf
          have e2 : some t = some t' := ht
          cases e1
          cases e2
          exact ⟨a, rfl, h1⟩
        | succ i => exact kept_get (i := i) h2 hf ht
def madeP (word : Str) (ts : List Tr) : Option Tr := match formsP word ts.length with
  | none => none
  | some fs => if fs.length = ts.length then match keptP fs ts with
      | none => none
      | some ks => some (if word = "cols" then .t (.cons (.s "cols") (.cons (.t (Trs.of ks.dropLast)) (.cons (ks.getLastD (.s "")) .nil))) else .t (.cons (.s word) (Trs.of ks)))
    else none
theorem made_inv {word : Str} {ts : List Tr} {t' : Tr} (h : madeP word ts = some t') : ∃ fs ks, formsP word ts.length = some fs ∧ fs.length = ts.length ∧ keptP fs ts = some ks ∧
    t' = if word = "cols" then .t (.cons (.s "cols") (.cons (.t (Trs.of ks.dropLast)) (.cons (ks.getLastD (.s "")) .nil))) else .t (.cons (.s word) (Trs.of ks)) := by
  unfold madeP at h
  split at h
  · cases h
  · rename_i fs hf
    split at h
    · rename_i hfl
      split at h
      · cases h
      · rename_i ks hk
        cases h
        exact ⟨fs, ks, hf, hfl, hk, rfl⟩
    · cases h
theorem cut_last (ws : List V) (v : V) : cutV (ws ++ [v]) none (some (-1)) = ws := by
  unfold cutV
  have e1 : HT.sIx (ws ++ [v]).length 0 none = 0 := rfl
  have e2 : HT.sIx (ws ++ [v]).length (ws ++ [v]).length (some (-1)) = ws.length := by
    show (if (-1 : Int) < 0 then ((-1 : Int) + ((ws ++ [v]).length : Int)).toNat else min (-1 : Int).toNat (ws ++ [v]).length) = _
    rw [if_pos (by decide), List.length_append, List.length_singleton]
    omega
  rw [e1, e2, List.drop_zero, Nat.sub_zero, List.take_left]
def spMade (K : PySem.W.Frag) : Sp := fun vs H Q _ => ∃ (word : Str) (l : Addr) (ts : List Tr) (ps : List V) (t' : Tr), vs = [.str word, .ref l] ∧ H l = some (.lst ps) ∧ AllAt H ts ps ∧ madeP word ts = some t' ∧ ts.length ≤ 900000 ∧ (∀ t ∈ ts, shortT t) ∧ ∀ v' H', Same H H' → TrAt H' t' v' → Q v' H'
theorem sc_made : FnScope ["word", "parts", "forms", "kept"] ["word", "parts"] (defScope s_made) := ⟨rfl, rfl, rfl, by decide +kernel, rfl, by decide +kernel, by decide +kernel⟩
theorem ok_made (F : Fun K "made" "made" s_made f fd) (T : Txt K mg) (R : TxtR K mg) (Cforms_behind : Kn P w K mg base 1 "forms_behind" ["word", "count"] (spForms K)) (Ctaken : Kn P w K mg base 2 "taken" ["form", "part"] (spTaken K)) : FnOk P w K mg base CX0 3 f fd ["word", "parts"] (spMade K) := by
  refine F.ok sc_made (fun vs H Q E h => ?_) (fun cdv A outer s H vs Q E hr h => ?_)
  · obtain ⟨word, l, ts, ps, t', rfl, _⟩ := h
    rfl
  obtain ⟨word, l, ts, ps, t', rfl, hl, hps, hm, hn, hsh, q⟩ := h
  have hlen := hps.len
  obtain ⟨fs, ks, hf, hfl, hkp, et⟩ := made_inv hm
  obtain ⟨_, hkl⟩ := kept_len hkp
  refine ⟨_, (pss_cons (ps_set (i := 2) sc_made.nd rfl (Or.inl rfl) (pe_callF Cforms_behind (hr.mono (by first | decide | omega)) rfl (pa_conN (pv 0) (pa_conK (pe_callB call_len_seq rfl T.len PySem.boot_len (pa_conN (pv 1) pa_nil)) pa_nil))))
    (pss_cons (ps_if (pt_cmpR op_ne (pe_callB call_len_seq rfl T.len PySem.boot_len (pa_conN (pv 1) pa_nil)) (pe_callB call_len_seq rfl T.len PySem.boot_len (pa_conN (pv 2) pa_nil)) (nomark _))
      (pss_one ps_never)
      pss_nil)
    (pss_cons (ps_setCompG (j := 3) rfl sc_made.nd rfl (Or.inl rfl) (CompScG.of (sx := defScope s_made) (NX := ["word", "parts", "forms", "kept"]) (xs := ["form", "part"]) (fr := []) (ix := []) rfl rfl (by decide +kernel)) (pi_zip rfl T.zip (pa_conN (pv 2) (pa_conN (pv 1) pa_nil))) (pg_two rfl (CompScG.of (sx := defScope s_made) (NX := ["word", "parts", "forms", "kept"]) (xs := ["form", "part"]) (fr := []) (ix := []) rfl rfl (by decide +kernel)) (by rfl) (by rfl)) (fun _ _ _ _ _ _ => pif_nil) (fun _ _ _ _ _ _ => (pe_callF Ctaken (hr.mono (by first | decide | omega)) rfl (pa_conN (pv 0) (pa_conN (pv 1) pa_nil)))))
    (pss_cons (ps_if (pt_cmpR op_eq (pv 0) pe_str (nomark _))
      (pss_one (ps_ret (pe_tup (pa_conC pe_str (pa_conK (pe_callTy call_tuple_of rfl T.tuple PyProof.Rows.boot_tuple (pa_conS (pe_slice sl_list (pv 3) po_none (po_some (pe_un un_neg pe_int))) pa_nil)) (pa_conS (pe_ix ix_list (pv 3) (pe_un un_neg pe_int) (fun _ _ => rfl)) pa_nil))))))
      pss_nil)
    (pss_one (ps_ret (pe_callTy call_tuple_of rfl T.tuple PyProof.Rows.boot_tuple (pa_conB (pe_op op_cat (pe_lst (pa_conN (pv 0) pa_nil)) (pv 3)) pa_nil)))))))), ?_⟩
  refine ⟨_, rfl, _, rfl, l, _, rfl, .inl (SqL.of hl), word, ts.length, fs, by rw [hlen]; rfl, hf, hn, fun b H1 n1 hb => ?_⟩
  refine ⟨_, rfl, l, _, rfl, .inl (SqL.of (n1 _ _ hl)), _, rfl, b, _, rfl, .inr hb, rfl, _, rfl, ?_⟩
  have hbl : (fs.map V.str).length = ps.length := by rw [List.length_map, hfl, hlen]
  refine ifF (by rw [dec_intV, hbl]; simp) ?_
  refine ⟨_, rfl, _, rfl, b, l, rfl, ⟨_, hb⟩, ⟨_, SqL.of (n1 _ _ hl)⟩, ?_⟩
  refine comp_zipN (xs := fs.map V.str) (ys := ps) hbl (fun i zs H' => Same H1 H' ∧ i ≤ ps.length ∧ AllAt H' (ks.take i) zs) ⟨Same.refl _, Nat.zero_le _, .nil⟩ (fun i zs H' hi ⟨e, h2, h3⟩ => ⟨e.tup hb, SqL.of (e _ _ (n1 _ _ hl)), lt_line ?_⟩) ?_ ?_
  · have := h3.len
    rw [List.length_take] at this
    omega
  · rintro i x y zs H' p hx hy ⟨e, h2, h3⟩ hp
    refine alloc_rd (upd _ p _) rfl hp fun H2 n2 x2 => ?_
    rw [List.getElem?_map] at hx
    cases hfi : fs[i]? with
    | none => rw [hfi] at hx; cases hx
    | some form =>
      rw [hfi] at hx
      cases hx
      obtain ⟨t, hti, htv⟩ := (hps.same (n1.trans (e.trans n2))).get hy
      obtain ⟨k, hki, htk⟩ := kept_get hkp hfi hti
      refine ⟨_, rfl, _, rfl, form, y, t, k, rfl, htv, htk, hsh t (List.mem_of_getElem? hti), fun v' H3 n3 hv' => ⟨⟨_, _, rfl⟩, (e.trans n2).trans n3, ?_, ?_⟩⟩
      · have := (List.getElem?_eq_some_iff.mp hy).1
        omega
      · rw [List.take_add_one, hki]
        exact (h3.same (n2.trans n3)).snoc hv'
  · rintro zs H2 ⟨e, h2, h3⟩ kp hkp'
    rw [show (fs.map V.str).length = ks.length by rw [List.length_map, hfl, hkl], List.take_length] at h3
    refine alloc_rd (upd _ kp _) rfl hkp' fun H3 n3 x3 => ?_
    have a3 := h3.same n3
    have s3 := n1.trans (e.trans n3)
    have hzl := h3.len
    refine ⟨_, rfl, rfl, _, rfl, ?_⟩
    by_cases hw : word = "cols"
    · rw [if_pos hw] at et
      refine ifT (by rw [dec_strV, decide_eq_true hw]) ?_
      have hk0 : ks ≠ [] := fun e => by
        have hf2 := hf
        unfold formsP at hf2
        rw [if_pos hw] at hf2
        cases hf2
        rw [e, List.length_nil] at hkl
        rw [← hkl, List.length_append, List.length_singleton] at hfl
        omega
      obtain ⟨kk, k, rfl⟩ := snoc_of hk0
      rw [List.dropLast_concat, List.getLastD_concat] at et
      obtain ⟨ws, v, rfl, aw, av⟩ := AllAt.split a3
      rw [List.length_append, List.length_append, List.length_singleton, List.length_singleton] at hzl
      refine ⟨_, rfl, _, rfl, _, rfl, kp, _, rfl, SqL.of x3, fun l1 hl1 => ?_⟩
      rw [cut_last]
      refine alloc_rd (upd _ l1 _) rfl hl1 fun H4 n4 x4 => ?_
      refine ⟨l1, _, rfl, .inl ⟨SqL.of x4, fun l2 hl2 => ?_⟩⟩
      refine alloc_rd (upd _ l2 _) rfl hl2 fun H5 n5 x5 => ?_
      refine ⟨_, rfl, _, rfl, kp, _, _, v, rfl, rfl, SqL.of (n5 _ _ (n4 _ _ x3)), atI_last _ _, le_line (by show 3 ≤ _; decide), fun l3 hl3 => ?_⟩
      refine alloc_rd (upd _ l3 _) rfl hl3 fun H6 n6 x6 => ?_
      refine q _ H6 (s3.trans (n4.trans (n5.trans n6))) ?_
      rw [et]
      simp only [TrAt, TrsAt]
      exact ⟨l3, _, rfl, x6, _, _, rfl, rfl, _, _, rfl, ⟨l2, _, rfl, n6 _ _ x5, (aw.same (n4.trans (n5.trans n6))).trs⟩, _, _, rfl, av.same (n4.trans (n5.trans n6)), rfl⟩
    · rw [if_neg hw] at et
      refine ifF (by rw [dec_strV, decide_eq_false hw]) ?_
      refine ⟨_, rfl, le_line (by show 1 ≤ _; decide), fun l1 hl1 => ?_⟩
      refine alloc_rd (upd _ l1 _) rfl hl1 fun H4 n4 x4 => ?_
      refine ⟨_, rfl, l1, kp, _, _, rfl, rfl, x4, n4 _ _ x3, le_line ?_, fun l2 hl2 => ?_⟩
      · show 1 + zs.length ≤ _
        omega
      refine alloc_rd (upd _ l2 _) rfl hl2 fun H5 n5 x5 => ?_
      refine ⟨l2, _, rfl, .inl ⟨SqL.of x5, fun l3 hl3 => ?_⟩⟩
      refine alloc_rd (upd _ l3 _) rfl hl3 fun H6 n6 x6 => ?_
      refine q _ H6 (s3.trans (n4.trans (n5.trans n6))) ?_
      rw [et]
      simp only [TrAt, TrsAt]
      exact ⟨l3, _, rfl, x6, _, _, rfl, rfl, (a3.same (n4.trans (n5.trans n6))).trs⟩
abbrev Stack := List (Str × List Tr)
def loopP : Nat → Stack → Tr → Option Tr
  | 0, _, t => some t
  | k + 1, (w, ts) :: st, t => match madeP w (ts ++ [t]) with
    | some t' => loopP k st t'
    | none => none
  | _ + 1, [], _ => none
inductive FrAt (H : Hp) : List Addr → Stack → Prop
  | nil : FrAt H [] []
  | cons {r : Addr} {w : Str} {ts : List Tr} {vs : List V} {rs : List Addr} {st : Stack} : H r = some (.lst (.str w :: vs)) → AllAt H ts vs → FrAt H rs st → FrAt H (r :: rs) ((w, ts) :: st)
theorem FrAt.mono {H H' : Hp} {rs : List Addr} {st : Stack} (h : FrAt H rs st) (hl : ∀ r ∈ rs, ∀ o, H r = some o → H' r = some o) (ht : ∀ b xs, H b = some (.tup xs) → H' b = some (.tup xs)) : FrAt H' rs st := by
  induction h with
  | nil => exact .nil
  | cons h1 h2 _ ih => exact .cons (hl _ List.mem_cons_self _ h1) (h2.mono ht) (ih fun r hr => hl r (List.mem_cons_of_mem _ hr))
theorem FrAt.len {H : Hp} {rs : List Addr} {st : Stack} (h : FrAt H rs st) : rs.length = st.length := by
  induction h with
  | nil => rfl
  | cons _ _ _ ih => rw [List.length_cons, List.length_cons, ih]
def stOk (n : Nat) (st : Stack) : Prop := ∀ f ∈ st, f.2.length < n ∧ ∀ t ∈ f.2, shortT t
theorem made_short {w : Str} {ts : List Tr} {t : Tr} (h : madeP w ts = some t) : shortT t := by
  obtain ⟨fs, ks, _, _, _, e⟩ := made_inv h
  intro x hx
  rw [e] at hx
  split at hx <;> cases hx
def spClosed (K : PySem.W.Frag) : Sp := fun vs H Q _ => ∃ (ap : Addr) (piece wd : Str) (rs : List Addr) (st : Stack) (k : Nat) (t : Tr), vs = [.ref ap, .str piece] ∧ H ap = some (.lst (rs.reverse.map V.ref)) ∧ ap ∉ rs ∧ FrAt H rs st ∧ stOk 900000 st ∧ piece.length ≤ 1000000 ∧
  Txt.rstripChars piece ")" = wd ∧ piece.length = wd.length + k ∧ loopP k st (.s wd) = some t ∧ ∀ v' H', Kp ap H H' → H' ap = some (.lst ((rs.drop k).reverse.map V.ref)) → TrAt H' t v' → Q v' H'
theorem loop_len : ∀ {k : Nat} {st : Stack} {t t' : Tr}, loopP k st t = some t' → k ≤ st.length
  | 0, _, _, _, _ => Nat.zero_le _
  | k + 1, [], _, _, h => by cases h
  | k + 1, (w, ts) :: st, t, t', h => by
    unfold loopP at h
    cases e : madeP w (ts ++ [t]) with
    | none => rw [e] at h; cases h
    | some u =>
      rw [e] at h
      have := loop_len h
      rw [List.length_cons]
      omega
theorem kp_tup {ap : Addr} {H H' : Hp} {xs : List V} (k : Kp ap H H') (h : H ap = some (.lst xs)) : ∀ b ys, H b = some (.tup ys) → H' b = some (.tup ys) := fun b ys e => k b _ (ne_of e h (by intro z; cases z)) e
theorem sc_closed : FnScope ["above", "piece", "part", "brackets", "over"] ["above", "piece"] (defScope s_closed) := ⟨rfl, rfl, rfl, by decide +kernel, rfl, by decide +kernel, by decide +kernel⟩
theorem ok_closed (F : Fun K "closed" "closed" s_closed f fd) (T : Txt K mg) (Cmade : Kn P w K mg base 3 "made" ["word", "parts"] (spMade K)) : FnOk P w K mg base CX0 4 f fd ["above", "piece"] (spClosed K) := by
  refine F.ok sc_closed (fun vs H Q E h => ?_) (fun cdv A outer s H vs Q E hr h => ?_)
  · obtain ⟨ap, piece, wd, rs, st, k, t, rfl, _⟩ := h
    rfl
  obtain ⟨ap, piece, wd, rs, st, k, t, rfl, hap, hnr, hfr, hok, hpl, hwd, hk, hloop, q⟩ := h
  have hlen := hfr.len
  have hks := loop_len hloop
  refine ⟨_, (pss_cons (ps_set (i := 2) sc_closed.nd rfl (Or.inl rfl) (pe_bm PySem.F.plainAttrs_str PySem.F.slot_str_rstrip PySem.F.type_str_rstrip mt_rstrip (pv 1) (pa_conC pe_str pa_nil)))
    (pss_cons (ps_set (i := 3) sc_closed.nd rfl (Or.inl rfl) (pe_op op_sub (pe_callB call_len_str rfl T.len PySem.boot_len (pa_conN (pv 1) pa_nil)) (pe_callB call_len_str rfl T.len PySem.boot_len (pa_conN (pv 2) pa_nil))))
    (pss_cons (ps_if (pt_cmpR op_gt (pv 3) (pe_callB call_len_seq rfl T.len PySem.boot_len (pa_conN (pv 0) pa_nil)) (nomark _))
      (pss_one ps_never)
      pss_nil)
    (pss_cons (ps_while PassesOwn.never (pt_cmpR op_gt (pv 3) pe_int (nomark _))
      (pss_cons (ps_set (i := 4) sc_closed.nd rfl (Or.inl rfl) (pe_bm0 PySem.F.plainAttrs_list PySem.F.slot_list_pop PySem.F.type_list_pop mt_pop (pv 0)))
      (pss_cons (ps_set (i := 2) sc_closed.nd rfl (Or.inl rfl) (pe_callF Cmade (hr.mono (by first | decide | omega)) rfl (pa_conS (pe_ix ix_list (pv 4) pe_int (fun _ _ => rfl)) (pa_conB (pe_op op_cat (pe_slice sl_list (pv 4) (po_some pe_int) po_none) (pe_lst (pa_conN (pv 2) pa_nil))) pa_nil))))
      (pss_one (ps_set (i := 3) sc_closed.nd rfl (Or.inl rfl) (pe_op op_sub (pv 3) pe_int))))))
    (pss_one (ps_ret (pv 2))))))), ?_⟩
  refine ⟨_, rfl, rfl, _, _, rfl, rfl, le_line hpl, ?_⟩
  rw [hwd]
  refine ⟨_, rfl, piece, rfl, le_line hpl, _, rfl, wd, rfl, le_line (by omega), _, _, rfl, rfl, ?_⟩
  have e1 : ((piece.length : Nat) : Int) - ((wd.length : Nat) : Int) = ((k : Nat) : Int) := by omega
  dsimp -proj only
  rw [e1]
  refine ⟨_, rfl, _, rfl, ap, _, rfl, .inl (SqL.of hap), _, _, rfl, rfl, _, rfl, ?_⟩
  refine ifF (decide_eq_false (by rw [List.length_map, List.length_reverse, hlen]; omega)) ?_
  refine while_w (fun m σ H' => ∃ (j : Nat) (v : V) (tj : Tr) (o4 : Option V), m = k - j ∧ j ≤ k ∧ σ = [some (.ref ap), some (.str piece), some v, some (.int ((k - j : Nat) : Int)), o4] ∧ Kp ap H H' ∧ H' ap = some (.lst ((rs.drop j).reverse.map V.ref)) ∧ TrAt H' tj v ∧ shortT tj ∧ loopP (k - j) (st.drop j) tj = some t) k
    ⟨0, _, .s wd, none, rfl, Nat.zero_le _, rfl, Kp.refl, hap, rfl, fun x e => by cases e; exact le_line (by omega), hloop⟩ ?_
  rintro m σ H1 ⟨j, v, tj, o4, rfl, hj, rfl, k1, a1, t1, sh1, l1⟩
  refine ⟨_, rfl, _, _, rfl, rfl, _, rfl, ?_⟩
  by_cases hjk : j < k
  · refine ifT (decide_eq_true (by omega)) ?_
    refine ⟨_, fun σ' H' z => z, ?_⟩
    have hjr : j < rs.length := by omega
    have hjs : j < st.length := by omega
    have er : rs.drop j = rs[j] :: rs.drop (j + 1) := List.drop_eq_getElem_cons hjr
    have es : st.drop j = st[j] :: st.drop (j + 1) := List.drop_eq_getElem_cons hjs
    have ek : k - j = (k - (j + 1)) + 1 := by omega
    rw [er, List.reverse_cons, List.map_append] at a1
    replace a1 : H1 ap = some (.lst ((rs.drop (j + 1)).reverse.map V.ref ++ [V.ref rs[j]])) := a1
    rw [es, ek] at l1
    have hfd : ∀ {rs : List Addr} {st : Stack} (j : Nat), FrAt H rs st → FrAt H (rs.drop j) (st.drop j) := fun j h => by
      induction h generalizing j with
      | nil => cases j <;> exact .nil
      | cons h1 h2 h3 ih =>
        cases j with
        | zero => exact .cons h1 h2 h3
        | succ j => exact ih j
    have hfj := hfd j hfr
    rw [er, es] at hfj
    have hmem : rs[j] ∈ rs := List.getElem_mem hjr
    have hst := hok st[j] (List.getElem_mem hjs)
    generalize rs[j] = r at a1 hfj hmem
    generalize st[j] = fj at l1 hfj hst
    obtain ⟨wj, tsj⟩ := fj
    cases hfj with
    | cons hr1 hr2 hr3 =>
      rename_i vs
      have nra : r ≠ ap := fun e => hnr (e ▸ hmem)
      refine ⟨_, rfl, .inl ⟨rfl, _, SqL.of a1⟩, ap, _, _, rfl, rfl, a1, last_of _ _, ?_⟩
      rw [List.dropLast_concat]
      have k2 : Kp ap H (upd H1 ap (.lst ((rs.drop (j + 1)).reverse.map V.ref))) := k1.put
      have a2 : upd H1 ap (.lst ((rs.drop (j + 1)).reverse.map V.ref)) ap = some (.lst ((rs.drop (j + 1)).reverse.map V.ref)) := upd_same
      have t2 := t1.mono (tup_upd (o := .lst ((rs.drop (j + 1)).reverse.map V.ref)) a1)
      generalize upd H1 ap (.lst ((rs.drop (j + 1)).reverse.map V.ref)) = H2 at k2 a2 t2 ⊢
      have r2 := k2 _ _ nra hr1
      have v2 := hr2.mono (kp_tup k2 hap)
      have hvl := v2.len
      refine ⟨_, rfl, r, _, _, _, rfl, rfl, SqL.of r2, atI0, _, rfl, _, rfl, r, _, rfl, SqL.of r2, fun l1' hl1 => ?_⟩
      rw [cut_tail]
      refine alloc_rd (upd _ l1' _) rfl hl1 fun H3 n3 x3 => ?_
      refine ⟨_, rfl, le_line (by show 1 ≤ _; decide), fun l2 hl2 => ?_⟩
      refine alloc_rd (upd _ l2 _) rfl hl2 fun H4 n4 x4 => ?_
      refine ⟨l1', l2, _, _, rfl, rfl, n4 _ _ x3, x4, le_line ?_, fun l3 hl3 => ?_⟩
      · have := hst.1
        show vs.length + 1 ≤ _
        simp only at this
        omega
      refine alloc_rd (upd _ l3 _) rfl hl3 fun H5 n5 x5 => ?_
      have n25 := n3.trans (n4.trans n5)
      unfold loopP at l1
      cases em : madeP wj (tsj ++ [tj]) with
      | none => rw [em] at l1; cases l1
      | some u =>
        rw [em] at l1
        refine ⟨wj, l3, tsj ++ [tj], _, u, rfl, x5, (v2.same n25).snoc (t2.same n25), em, ?_, ?_, fun v' H6 n6 hv' => ?_⟩
        · have := hst.1
          rw [List.length_append, List.length_singleton]
          simp only at this
          omega
        · intro z hz
          rcases List.mem_append.mp hz with hz | hz
          · exact hst.2 z hz
          · rw [List.mem_singleton.mp hz]
            exact sh1
        · have n26 := n25.trans n6
          refine ⟨_, rfl, _, _, rfl, rfl, k - (j + 1), by omega, j + 1, v', u, some (V.ref r), rfl, by omega, ?_, k2.trans n26.kp, n26 _ _ a2, hv', made_short em, l1⟩
          have e3 : ((k - j : Nat) : Int) - 1 = ((k - (j + 1) : Nat) : Int) := by omega
          show [some (V.ref ap), some (V.str piece), some v', some (V.int (((k - j : Nat) : Int) - 1)), some (V.ref r)] = _
          rw [e3]
  · refine ifF (decide_eq_false (by omega)) ?_
    have e : j = k := by omega
    subst e
    rw [Nat.sub_self] at l1
    cases l1
    exact ⟨_, rfl, q v H1 k1 a1 t1⟩
def baseOf (piece : Str) : Str := Txt.rstripChars piece ")"
def brOf (piece : Str) : Nat := piece.length - (baseOf piece).length
theorem word_len (piece : Str) : piece.length = (baseOf piece).length + brOf piece := by
  have : (baseOf piece).length ≤ piece.length := PyProof.Rows.len_rstripChars piece ")"
  unfold brOf
  omega
def stepP (st : Stack) (piece : Str) : Option Stack := if Txt.startswith piece "(" = true then some ((Txt.slice piece (some 1) none, []) :: st) else match loopP (brOf piece) st (.s (baseOf piece)) with
  | none => none
  | some t => match st.drop (brOf piece) with
    | [] => none
    | (w, ts) :: r => some ((w, ts ++ [t]) :: r)
def runP : Stack → List Str → Option Stack
  | st, [] => some st
  | st, p :: ps => match stepP st p with
    | some st' => runP st' ps
    | none => none
theorem run_snoc : ∀ {st st' : Stack} {ps : List Str} {p : Str}, runP st ps = some st' → runP st (ps ++ [p]) = stepP st' p
  | st, st', [], p, h => by
    cases h
    show (match stepP st p with | some st' => some st' | none => none) = _
    cases stepP st p <;> rfl
  | st, st', a :: ps, p, h => by
    unfold runP at h
    show (match stepP st a with | some s2 => runP s2 (ps ++ [p]) | none => none) = _
    cases e : stepP st a with
    | none => rw [e] at h; cases h
    | some s2 =>
      rw [e] at h
      exact run_snoc h
theorem run_pre : ∀ {st st' : Stack} {ps qs : List Str}, runP st (ps ++ qs) = some st' → ∃ s2, runP st ps = some s2 ∧ runP s2 qs = some st'
  | st, st', [], qs, h => ⟨st, rfl, h⟩
  | st, st', a :: ps, qs, h => by
    have h' : (match stepP st a with | some s2 => runP s2 (ps ++ qs) | none => none) = some st' := h
    cases e : stepP st a with
    | none => rw [e] at h'; cases h'
    | some s2 =>
      rw [e] at h'
      obtain ⟨s3, h1, h2⟩ := run_pre h'
      refine ⟨s3, ?_, h2⟩
      show (match stepP st a with | some s2 => runP s2 ps | none => none) = _
      rw [e]
      exact h1
theorem loop_short : ∀ {k : Nat} {st : Stack} {t t' : Tr}, loopP k st t = some t' → shortT t → shortT t'
  | 0, _, _, _, h, s => by cases h; exact s
  | k + 1, [], _, _, h, _ => by cases h
  | k + 1, (w, ts) :: st, t, t', h, s => by
    unfold loopP at h
    cases e : madeP w (ts ++ [t]) with
    | none => rw [e] at h; cases h
    | some u =>
      rw [e] at h
      exact loop_short h (made_short e)
theorem FrAt.drop {H : Hp} {rs : List Addr} {st : Stack} (h : FrAt H rs st) : ∀ j, FrAt H (rs.drop j) (st.drop j) := by
  induction h with
  | nil => intro j; cases j <;> exact .nil
  | cons h1 h2 h3 ih =>
    intro j
    cases j with
    | zero => exact .cons h1 h2 h3
    | succ j => exact ih j
theorem FrAt.put {H : Hp} {rs : List Addr} {st : Stack} {x : Addr} {xs : List V} {o : HO} (h : FrAt H rs st) (hx : H x = some (.lst xs)) (hn : x ∉ rs) : FrAt (upd H x o) rs st :=
  h.mono (fun r hr ob e => by rw [upd_ne (show r ≠ x from fun z => hn (by rw [← z]; exact hr))]; exact e) (tup_upd hx)
theorem FrAt.kp {H H' : Hp} {rs : List Addr} {st : Stack} {x : Addr} {xs : List V} (h : FrAt H rs st) (k : Kp x H H') (hx : H x = some (.lst xs)) (hn : x ∉ rs) : FrAt H' rs st :=
  h.mono (fun r hr ob e => k r ob (fun z => hn (by rw [← z]; exact hr)) e) (kp_tup k hx)
theorem FrAt.same {H H' : Hp} {rs : List Addr} {st : Stack} (h : FrAt H rs st) (e : Same H H') : FrAt H' rs st := h.mono (fun r _ ob z => e _ _ z) fun b xs z => e _ _ z
def spRead (K : PySem.W.Frag) : Sp := fun vs H Q _ => ∃ (line : Str) (init : List Str) (last : Str) (st : Stack) (t t' : Tr), vs = [.str line] ∧ line.length ≤ 800000 ∧ Txt.split line " " = init ++ [last] ∧ runP [] init = some st ∧ loopP (brOf last) st (.s (baseOf last)) = some t ∧ st.drop (brOf last) = [] ∧ takenP "question" t = some t' ∧
  ∀ v' H', Same H H' → TrAt H' t' v' → Q v' H'
structure RdAt (H H' : Hp) (ap pp pl : Addr) (ps init : List V) (rs : List Addr) (st : Stack) (n : Nat) : Prop where
  same : Same H H'
  top : H' ap = some (.lst (rs.reverse.map V.ref))
  hp : H' pp = some (.lst ps)
  hi : H' pl = some (.lst init)
  fr : FrAt H' rs st
  nd : rs.Nodup
  na : ap ∉ rs
  np : pp ∉ rs
  ni : pl ∉ rs
  fresh : ∀ r ∈ rs, H r = none
  ok : stOk n st
theorem sc_read : FnScope ["line", "above", "pieces", "piece", "part"] ["line"] (defScope s_read) := ⟨rfl, rfl, rfl, by decide +kernel, rfl, by decide +kernel, by decide +kernel⟩
set_option maxHeartbeats 1600000 in
theorem ok_read (F : Fun K "read" "read" s_read f fd) (T : Txt K mg) (Cclosed : Kn P w K mg base 4 "closed" ["above", "piece"] (spClosed K)) (Ctaken : Kn P w K mg base 2 "taken" ["form", "part"] (spTaken K)) : FnOk P w K mg base CX0 5 f fd ["line"] (spRead K) := by
  refine F.ok sc_read (fun vs H Q E h => ?_) (fun cdv A outer s H vs Q E hr h => ?_)
  · obtain ⟨line, init, last, st, t, t', rfl, _⟩ := h
    rfl
  obtain ⟨line, init, last, stE, t, t', rfl, hline, hsp, hrun, hloop, hdrop, htk, q⟩ := h
  have hsl := PyProof.Rows.split_le line " "
  rw [hsp, List.length_append, List.length_singleton] at hsl
  have hshort : ∀ p ∈ init ++ [last], p.length ≤ line.length := fun p hp => PyProof.Rows.part_short (y := " ") (by rw [hsp]; exact hp)
  refine ⟨_, (pss_cons (ps_set (i := 1) sc_read.nd rfl (Or.inl rfl) (pe_lst pa_nil))
    (pss_cons (ps_set (i := 2) sc_read.nd rfl (Or.inl rfl) (pe_bm PySem.F.plainAttrs_str PySem.F.slot_str_split PySem.F.type_str_split mt_split (pv 0) (pa_conC pe_str pa_nil)))
    (pss_cons (ps_for PassesOwn.never rfl (pi_list (pe_slice sl_list (pv 2) po_none (po_some (pe_un un_neg pe_int)))) (pg_name (i := 3) sc_read.nd rfl (Or.inl rfl))
      (pss_one (ps_if (pt_val (pe_bm PySem.F.plainAttrs_str PySem.F.slot_str_startswith PySem.F.type_str_startswith mt_startswith (pv 3) (pa_conC pe_str pa_nil)))
        (pss_one (ps_expr (pe_bm PySem.F.plainAttrs_list PySem.F.slot_list_append PySem.F.type_list_append mt_append (pv 1) (pa_conL (pe_lst (pa_conS (pe_slice sl_str (pv 3) (po_some pe_int) po_none) pa_nil)) pa_nil))))
        (pss_cons (ps_set (i := 4) sc_read.nd rfl (Or.inl rfl) (pe_callF Cclosed (hr.mono (by first | decide | omega)) rfl (pa_conN (pv 1) (pa_conN (pv 3) pa_nil))))
        (pss_cons (ps_if (pt_not (pt_truth (pv 1) (fun _ => rfl)))
          (pss_one ps_never)
          pss_nil)
        (pss_one (ps_expr (pe_bm PySem.F.plainAttrs_list PySem.F.slot_list_append PySem.F.type_list_append mt_append (pe_ix ix_list (pv 1) (pe_un un_neg pe_int) (fun _ _ => rfl)) (pa_conN (pv 4) pa_nil)))))))))
    (pss_cons (ps_set (i := 4) sc_read.nd rfl (Or.inl rfl) (pe_callF Cclosed (hr.mono (by first | decide | omega)) rfl (pa_conN (pv 1) (pa_conS (pe_ix ix_list (pv 2) (pe_un un_neg pe_int) (fun _ _ => rfl)) pa_nil))))
    (pss_cons (ps_if (pt_truth (pv 1) (fun _ => rfl))
      (pss_one ps_never)
      pss_nil)
    (pss_one (ps_ret (pe_callF Ctaken (hr.mono (by first | decide | omega)) rfl (pa_conC pe_str (pa_conN (pv 4) pa_nil)))))))))), ?_⟩
  refine ⟨le_line (by show 0 ≤ _; decide), fun ap hap => ?_⟩
  refine alloc_rd (upd _ ap _) rfl hap fun H1 n1 x1 => ?_
  refine ⟨_, rfl, rfl, _, _, rfl, rfl, by decide +kernel, by have := sizeLine_eq; omega, fun pp hpp => ?_⟩
  rw [hsp, List.map_append]
  refine alloc_rd (upd _ pp _) rfl hpp fun H2 n2 x2 => ?_
  refine ⟨_, rfl, _, rfl, _, rfl, pp, _, rfl, SqL.of x2, fun pl hpl => ?_⟩
  rw [show [last].map V.str = [V.str last] from rfl, cut_last] at *
  refine alloc_rd (upd _ pl _) rfl hpl fun H3 n3 x3 => ?_
  have nap : ap ≠ pp := ne_of_none x1 hpp
  have nal : ap ≠ pl := ne_of_none (n2 _ _ x1) hpl
  have npl : pp ≠ pl := ne_of_none x2 hpl
  refine ⟨pl, rfl, ⟨_, SqL.of x3⟩, for_list (K := K) (a := pl) (xs := init.map V.str) (fun i σ H' => ∃ (rs : List Addr) (st : Stack) (o3 o4 : Option V), σ = [some (.str line), some (.ref ap), some (.ref pp), o3, o4] ∧ RdAt H H' ap pp pl (init.map V.str ++ [V.str last]) (init.map V.str) rs st (i + 1) ∧ runP [] (init.take i) = some st)
    ⟨[], [], none, none, rfl, ⟨n1.trans (n2.trans n3), n3 _ _ (n2 _ _ x1), n3 _ _ x2, x3, .nil, .nil, by simp, by simp, by simp, by simp, fun f hf => by cases hf⟩, rfl⟩ (fun i σ H' _ ⟨_, _, _, _, _, z, _⟩ => SqL.of z.hi) ?_ ?_⟩
  · rintro i x σ H4 hx ⟨rs, st, o3, o4, rfl, rd, hru⟩
    rw [List.getElem?_map] at hx
    cases hpi : init[i]? with
    | none => rw [hpi] at hx; cases hx
    | some piece =>
      rw [hpi] at hx
      cases hx
      have hil : i < init.length := (List.getElem?_eq_some_iff.mp hpi).1
      have hpm : piece ∈ init ++ [last] := List.mem_append_left _ (List.mem_of_getElem? hpi)
      have hpl' := hshort piece hpm
      have hstep : ∃ st', stepP st piece = some st' ∧ runP [] (init.take (i + 1)) = some st' := by
        have e1 : init = init.take (i + 1) ++ init.drop (i + 1) := (List.take_append_drop _ _).symm
        rw [e1] at hrun
        obtain ⟨s2, h1, _⟩ := run_pre hrun
        have e2 : init.take (i + 1) = init.take i ++ [piece] := by rw [List.take_add_one, hpi]; rfl
        refine ⟨s2, ?_, h1⟩
        rw [e2, run_snoc hru] at h1
        exact h1
      obtain ⟨st', hst, hru'⟩ := hstep
      refine ⟨_, rfl, rfl, _, _, rfl, rfl, _, rfl, ?_⟩
      unfold stepP at hst
      by_cases hs : Txt.startswith piece "(" = true
      · rw [if_pos hs] at hst
        cases hst
        refine ifT hs ?_
        refine ⟨_, rfl, .inl ⟨rfl, _, SqL.of rd.top⟩, _, rfl, _, rfl, piece, rfl, le_line (by omega), le_line (by show 1 ≤ _; decide), fun r hr' => ?_⟩
        refine alloc_rd (upd _ r _) rfl hr' fun H5 n5 x5 => ?_
        have nar : ap ≠ r := ne_of_none rd.top hr'
        have npr : pp ≠ r := ne_of_none rd.hp hr'
        have nir : pl ≠ r := ne_of_none rd.hi hr'
        have nrr : r ∉ rs := fun hm => by
          have hh : ∀ {H : Hp} {rs : List Addr} {st : Stack}, FrAt H rs st → r ∈ rs → H r ≠ none := fun h => by
            induction h with
            | nil => intro z; cases z
            | cons h1 _ _ ih =>
              intro z
              rcases List.mem_cons.mp z with e | z
              · rw [e, h1]; simp
              · exact ih z
          exact hh rd.fr hm hr'
        have t5 := n5 _ _ rd.top
        have hlen := rd.fr.len
        refine ⟨ap, _, _, rfl, rfl, t5, ?_, ?_⟩
        · rw [List.length_map, List.length_reverse]
          have : ∀ {st st' : Stack} {ps : List Str}, runP st ps = some st' → st'.length ≤ st.length + ps.length := fun {st st' ps} h => by
            induction ps generalizing st with
            | nil => cases h; exact Nat.le_refl _
            | cons p ps ih =>
              unfold runP at h
              cases e : stepP st p with
              | none => rw [e] at h; cases h
              | some s2 =>
                rw [e] at h
                have h2 := ih h
                have h3 : s2.length ≤ st.length + 1 := by
                  unfold stepP at e
                  split at e
                  · cases e; simp
                  · split at e
                    · cases e
                    · split at e
                      · cases e
                      · rename_i hd
                        cases e
                        have := congrArg List.length hd
                        rw [List.length_drop, List.length_cons] at this
                        rw [List.length_cons]
                        omega
                rw [List.length_cons]
                omega
          have := this hru
          rw [List.length_take, List.length_nil] at this
          exact lt_line (by omega)
        · refine ⟨r :: rs, _, _, _, rfl, ⟨(rd.same.trans n5).put hap, ?_, ?_, ?_, ?_, List.nodup_cons.mpr ⟨nrr, rd.nd⟩, ?_, ?_, ?_, ?_, ?_⟩, hru'⟩
          · rw [upd_same, List.reverse_cons, List.map_append]
            rfl
          · rw [upd_ne nap.symm]; exact n5 _ _ rd.hp
          · rw [upd_ne nal.symm]; exact n5 _ _ rd.hi
          · refine FrAt.put (.cons x5 .nil (rd.fr.same n5)) t5 ?_
            intro z
            rcases List.mem_cons.mp z with e | z
            · exact nar e
            · exact rd.na z
          · intro z
            rcases List.mem_cons.mp z with e | z
            · exact nar e
            · exact rd.na z
          · intro z
            rcases List.mem_cons.mp z with e | z
            · exact npr e
            · exact rd.np z
          · intro z
            rcases List.mem_cons.mp z with e | z
            · exact nir e
            · exact rd.ni z
          · intro z hz
            rcases List.mem_cons.mp hz with e | hz
            · rw [e]; exact rd.same.free hr'
            · exact rd.fresh z hz
          · intro f' hf'
            rcases List.mem_cons.mp hf' with e | hf'
            · rw [e]
              exact ⟨Nat.succ_pos _, fun t ht => by cases ht⟩
            · exact ⟨Nat.lt_succ_of_lt (rd.ok f' hf').1, (rd.ok f' hf').2⟩
      · rw [if_neg hs] at hst
        refine ifF (by simpa using hs) ?_
        cases hlp : loopP (brOf piece) st (.s (baseOf piece)) with
        | none => rw [hlp] at hst; cases hst
        | some tt =>
          rw [hlp] at hst
          cases hdr : st.drop (brOf piece) with
          | nil => simp only [hdr] at hst; cases hst
          | cons fr0 rest =>
            obtain ⟨w0, ts0⟩ := fr0
            simp only [hdr] at hst
            cases hst
            have hb := word_len piece
            have htsh : shortT tt := loop_short hlp fun x e => by cases e; exact le_line (by omega)
            refine ⟨_, rfl, _, rfl, ap, piece, _, rs, st, brOf piece, tt, rfl, rd.top, rd.na, rd.fr, fun f' hf' => ⟨by have := (rd.ok f' hf').1; omega, (rd.ok f' hf').2⟩, by omega, rfl, hb, hlp, fun v' H5 k5 a5 t5 => ?_⟩
            have fd := (rd.fr.kp k5 rd.top rd.na).drop (brOf piece)
            have hsub : ∀ z ∈ rs.drop (brOf piece), z ∈ rs := fun z hz => List.mem_of_mem_drop hz
            have nd5 : (rs.drop (brOf piece)).Nodup := rd.nd.sublist (List.drop_sublist _ _)
            rw [hdr] at fd
            generalize rs.drop (brOf piece) = rs5 at fd hsub nd5 a5
            cases fd with
            | cons h1 h2 h3 =>
              rename_i r0 vs0 rs0
              have nr0 : r0 ∉ rs0 := (List.nodup_cons.mp nd5).1
              have m0 := hsub r0 List.mem_cons_self
              have na0 : ap ≠ r0 := fun e => rd.na (e ▸ m0)
              have same5 : Same H H5 := fun b o e => k5 b o (ne_of_none e hap) (rd.same b o e)
              refine ⟨_, rfl, _, .inl ⟨_, SqL.of a5, rfl⟩, ?_⟩
              refine ifF (by rw [List.reverse_cons, List.map_append]; simp) ?_
              have a5' : H5 ap = some (.lst (rs0.reverse.map V.ref ++ [V.ref r0])) := by rw [a5, List.reverse_cons, List.map_append]; rfl
              have hol := rd.ok (w0, ts0) (List.mem_of_mem_drop (i := brOf piece) (by rw [hdr]; exact List.mem_cons_self))
              have hvl := h2.len
              refine ⟨_, rfl, _, rfl, ap, _, _, _, rfl, rfl, SqL.of a5', atI_last _ _, .inl ⟨rfl, _, SqL.of h1⟩, _, rfl, r0, _, _, rfl, rfl, h1, lt_line ?_, ?_⟩
              · have := hol.1
                simp only at this
                rw [List.length_cons]
                omega
              refine ⟨r0 :: rs0, _, _, _, rfl, ⟨same5.put (rd.fresh r0 m0), ?_, ?_, ?_, ?_, nd5, ?_, ?_, ?_, ?_, ?_⟩, hru'⟩
              · rw [upd_ne na0]; exact a5
              · rw [upd_ne (show pp ≠ r0 from fun e => rd.np (by rw [e]; exact m0))]; exact k5 _ _ nap.symm rd.hp
              · rw [upd_ne (show pl ≠ r0 from fun e => rd.ni (by rw [e]; exact m0))]; exact k5 _ _ nal.symm rd.hi
              · refine .cons (vs := vs0 ++ [v']) ?_ ?_ (h3.put h1 nr0)
                · rw [upd_same]; rfl
                · exact (h2.mono (tup_upd h1)).snoc (t5.mono (tup_upd h1))
              · exact fun z => rd.na (hsub _ z)
              · exact fun z => rd.np (hsub _ z)
              · exact fun z => rd.ni (hsub _ z)
              · exact fun z hz => rd.fresh z (hsub z hz)
              · intro f' hf'
                rcases List.mem_cons.mp hf' with e | hf'
                · rw [e]
                  refine ⟨?_, fun z hz => ?_⟩
                  · have := hol.1
                    simp only [List.length_append, List.length_singleton] at this ⊢
                    omega
                  · rcases List.mem_append.mp hz with hz | hz
                    · exact hol.2 z hz
                    · rw [List.mem_singleton.mp hz]; exact htsh
                · have := rd.ok f' (List.mem_of_mem_drop (i := brOf piece) (by rw [hdr]; exact List.mem_cons_of_mem _ hf'))
                  exact ⟨Nat.lt_succ_of_lt this.1, this.2⟩
  · rintro σ H4 ⟨rs, st, o3, o4, rfl, rd, hru⟩
    rw [List.length_map, List.take_length, hrun] at hru
    cases hru
    have hb := word_len last
    have hll := hshort last (List.mem_append_right _ (List.mem_singleton.mpr rfl))
    refine ⟨_, rfl, _, rfl, _, rfl, pp, _, _, _, rfl, rfl, SqL.of rd.hp, atI_last _ _, ap, last, _, rs, stE, brOf last, t, rfl, rd.top, rd.na, rd.fr, fun f' hf' => ⟨by have := (rd.ok f' hf').1; rw [List.length_map] at this; omega, (rd.ok f' hf').2⟩, by omega, rfl, hb, hloop, fun v' H5 k5 a5 t5 => ?_⟩
    have fd := (rd.fr.kp k5 rd.top rd.na).drop (brOf last)
    rw [hdrop] at fd
    generalize rs.drop (brOf last) = rs5 at fd a5
    cases fd
    have same5 : Same H H5 := fun b o e => k5 b o (ne_of_none e hap) (rd.same b o e)
    refine ⟨_, rfl, _, .inl ⟨_, SqL.of a5, rfl⟩, ?_⟩
    refine ifF (by rfl) ?_
    exact ⟨_, rfl, "question", v', t, t', rfl, t5, htk, loop_short hloop (fun x e => by cases e; exact le_line (by omega)), fun v2 H6 n6 h6 => q v2 H6 (same5.trans n6) h6⟩
structure Elem where
  toks : Nat → List Str
  raw : Tr
def brk (x : Str) (k : Nat) : Str := tx (x.cps.toList ++ List.replicate k 41)
def Good (e : Elem) : Prop := ∀ (k : Nat) (st : Stack), k ≤ st.length → ∃ pre last st1, e.toks k = pre ++ [last] ∧ runP st pre = some st1 ∧ Txt.startswith last "(" = false ∧ loopP (brOf last) st1 (.s (baseOf last)) = loopP k st e.raw ∧ st1.drop (brOf last) = st.drop k
theorem run_app {st s2 : Stack} {ps qs : List Str} (h : runP st ps = some s2) : runP st (ps ++ qs) = runP s2 qs := by
  induction ps generalizing st with
  | nil => cases h; rfl
  | cons a ps ih =>
    unfold runP at h
    show (match stepP st a with | some s2 => runP s2 (ps ++ qs) | none => none) = _
    cases e : stepP st a with
    | none => rw [e] at h; cases h
    | some s3 =>
      rw [e] at h
      exact ih h
theorem open_eq : ("(" : Str) = ⟨#[40]⟩ := by decide +kernel
theorem close_eq : (")" : Str) = ⟨#[41]⟩ := by decide +kernel
theorem blank_eq : (" " : Str) = ⟨#[32]⟩ := by decide +kernel
def AtomOk (x : Str) : Prop := x.cps.toList ≠ [] ∧ ∀ c ∈ x.cps.toList, c ≠ 40 ∧ c ≠ 41 ∧ c ≠ 32
def atomE (x : Str) : Elem := ⟨fun k => [brk x k], .s x⟩
theorem base_brk {x : Str} (h : AtomOk x) (k : Nat) : baseOf (brk x k) = x := by
  unfold baseOf
  have := rstrip_is (g := (")" : Str).cps.contains) (x := brk x k) (a := x.cps.toList) (b := List.replicate k 41) (by simp [brk]) (fun c hc => by rw [(List.mem_replicate.mp hc).2]; decide +kernel) (fun c hc => by
    have := (h.2 c (List.mem_of_getLast? hc)).2.1
    rw [close_eq]
    simpa using this)
  rw [tx_list] at this
  exact this
theorem br_brk {x : Str} (h : AtomOk x) (k : Nat) : brOf (brk x k) = k := by
  unfold brOf
  rw [base_brk h, len_list, len_list]
  simp [brk]
theorem atom_good {x : Str} (h : AtomOk x) : Good (atomE x) := by
  intro k st hk
  refine ⟨[], brk x k, st, rfl, rfl, ?_, ?_, ?_⟩
  · rw [open_eq, starts_is]
    apply decide_eq_false
    cases q : x.cps.toList with
    | nil => exact absurd q h.1
    | cons c r =>
      have := (h.2 c (by rw [q]; exact List.mem_cons_self)).1
      simp [brk, q]
      exact this
  · rw [br_brk h, base_brk h]
    rfl
  · rw [br_brk h]
def brkE (W : Str) (es : List Elem) (e : Elem) (t : Tr) : Elem := ⟨fun k => (("(" : Str) ++ W) :: (es.flatMap (fun x : Elem => x.toks 0) ++ e.toks (k + 1)), t⟩
theorem step_open (st : Stack) (W : Str) : stepP st (("(" : Str) ++ W) = some ((W, []) :: st) := by
  have e : (("(" : Str) ++ W).cps.toList = 40 :: W.cps.toList := by rw [app_list, open_eq]; rfl
  have hs : Txt.startswith (("(" : Str) ++ W) "(" = true := by
    have := starts_is (("(" : Str) ++ W) 40
    rw [← open_eq, e] at this
    rw [this]
    rfl
  unfold stepP
  rw [if_pos hs, tail_is e, tx_list]
theorem run_elems (W : Str) (st : Stack) : ∀ (es : List Elem) (xs : List Tr), (∀ e ∈ es, Good e) → runP ((W, xs) :: st) (es.flatMap fun x : Elem => x.toks 0) = some ((W, xs ++ es.map (·.raw)) :: st)
  | [], xs, _ => by
    show some _ = some _
    rw [List.map_nil, List.append_nil]
  | e :: es, xs, h => by
    obtain ⟨pre, last, st1, e1, e2, e3, e4, e5⟩ := h e List.mem_cons_self 0 ((W, xs) :: st) (Nat.zero_le _)
    rw [List.flatMap_cons, e1]
    have h1 : runP ((W, xs) :: st) (pre ++ [last]) = some ((W, xs ++ [e.raw]) :: st) := by
      rw [run_snoc e2]
      unfold stepP
      rw [if_neg (by rw [e3]; simp), e4, e5]
      rfl
    rw [run_app h1, run_elems W st es (xs ++ [e.raw]) fun z hz => h z (List.mem_cons_of_mem _ hz), List.map_cons, List.append_assoc]
    rfl
theorem brk_good {W : Str} {es : List Elem} {e : Elem} {t : Tr} (h1 : ∀ x ∈ es, Good x) (h2 : Good e) (hm : madeP W (es.map (·.raw) ++ [e.raw]) = some t) : Good (brkE W es e t) := by
  intro k st hk
  obtain ⟨pre, last, st1, e1, e2, e3, e4, e5⟩ := h2 (k + 1) ((W, es.map (·.raw)) :: st) (by rw [List.length_cons]; omega)
  refine ⟨(("(" : Str) ++ W) :: (es.flatMap (fun x : Elem => x.toks 0) ++ pre), last, st1, ?_, ?_, e3, ?_, ?_⟩
  · show (("(" : Str) ++ W) :: (es.flatMap (fun x : Elem => x.toks 0) ++ e.toks (k + 1)) = _
    rw [e1, List.cons_append, List.append_assoc]
  · show (match stepP st (("(" : Str) ++ W) with | some s2 => runP s2 (es.flatMap (fun x : Elem => x.toks 0) ++ pre) | none => none) = _
    rw [step_open]
    show runP ((W, []) :: st) (es.flatMap (fun x : Elem => x.toks 0) ++ pre) = _
    rw [run_app (run_elems W st es [] h1), List.nil_append]
    exact e2
  · rw [e4]
    show (match madeP W (es.map (·.raw) ++ [e.raw]) with | some t' => loopP k st t' | none => none) = _
    rw [hm]
    rfl
  · rw [e5]
    rfl
def sp (ps : List Str) : List Nat := ps.flatMap fun p => 32 :: p.cps.toList
theorem sp_app (a b : List Str) : sp (a ++ b) = sp a ++ sp b := by unfold sp; rw [List.flatMap_append]
theorem sp_join {ps : List Str} (h : ps ≠ []) : sp ps = 32 :: (Str.join " " ps).cps.toList := by
  cases ps with
  | nil => exact absurd rfl h
  | cons a r =>
    rw [blank_eq, join_list]
    rfl
def LineE (e : Elem) (x : Str) : Prop := ∀ k, e.toks k ≠ [] ∧ sp (e.toks k) = 32 :: (x.cps.toList ++ List.replicate k 41) ∧ ∀ p ∈ e.toks k, 32 ∉ p.cps.toList
theorem atom_line {x : Str} (h : AtomOk x) : LineE (atomE x) x := fun k => by
  refine ⟨by simp [atomE], by simp [atomE, sp, brk], fun p hp => ?_⟩
  rw [List.mem_singleton.mp hp]
  intro hc
  have hc' : 32 ∈ x.cps.toList ++ List.replicate k 41 := by simpa [brk] using hc
  rcases List.mem_append.mp hc' with m | m
  · exact (h.2 32 m).2.2 rfl
  · exact absurd (List.mem_replicate.mp m).2 (by decide)
theorem brk_line {W y ye : Str} {ex : List (Elem × Str)} {e : Elem} {t : Tr} (hW : 32 ∉ W.cps.toList) (h1 : ∀ x ∈ ex, LineE x.1 x.2) (h2 : LineE e ye)
    (hy : y.cps.toList = 40 :: (W.cps.toList ++ (sp (ex.map (·.2)) ++ (32 :: (ye.cps.toList ++ [41]))))) : LineE (brkE W (ex.map (·.1)) e t) y := fun k => by
  have e0 : (("(" : Str) ++ W).cps.toList = 40 :: W.cps.toList := by rw [app_list, open_eq]; rfl
  obtain ⟨a1, a2, a3⟩ := h2 (k + 1)
  have es : sp ((ex.map (·.1)).flatMap fun x => x.toks 0) = sp (ex.map (·.2)) := by
    clear hy
    induction ex with
    | nil => rfl
    | cons x r ih =>
      rw [List.map_cons, List.flatMap_cons, sp_app, ih fun z hz => h1 z (List.mem_cons_of_mem _ hz), (h1 x List.mem_cons_self 0).2.1]
      simp [sp]
  refine ⟨by simp [brkE], ?_, fun p hp => ?_⟩
  · show sp ((("(" : Str) ++ W) :: ((ex.map (·.1)).flatMap (fun x : Elem => x.toks 0) ++ e.toks (k + 1))) = _
    have : sp ((("(" : Str) ++ W) :: ((ex.map (·.1)).flatMap (fun x : Elem => x.toks 0) ++ e.toks (k + 1))) = 32 :: ((("(" : Str) ++ W).cps.toList ++ sp ((ex.map (·.1)).flatMap (fun x : Elem => x.toks 0) ++ e.toks (k + 1))) := by
      unfold sp
      rw [List.flatMap_cons]
      rfl
    rw [this, e0, sp_app, es, a2, hy, List.replicate_succ]
    simp
  · rcases List.mem_cons.mp hp with e | hp
    · rw [e, e0]
      intro m
      rcases List.mem_cons.mp m with z | m
      · cases z
      · exact hW m
    · rcases List.mem_append.mp hp with m | m
      · obtain ⟨x, hx, hpx⟩ := List.mem_flatMap.mp m
        obtain ⟨z, hz, rfl⟩ := List.mem_map.mp hx
        exact (h1 z hz 0).2.2 p hpx
      · exact a3 p m
def trS : Side → Tr
  | .nm s => .s s
  | .nu i => .i i
def tl (l : List Tr) : Tr := .t (Trs.of l)
def trC : Cond → Tr
  | .less a b => tl [.s "less", trS a, trS b]
  | .same a b => tl [.s "same", trS a, trS b]
  | .no c => tl [.s "not", trC c]
  | .an c d => tl [.s "and", trC c, trC d]
  | .or c d => tl [.s "or", trC c, trC d]
def trQ : Qn → Tr
  | .table n => tl [.s "table", .s n]
  | .pick c q => tl [.s "pick", trC c, trQ q]
  | .cols ns q => tl [.s "cols", tl (ns.map Tr.s), trQ q]
  | .pair q r => tl [.s "pair", trQ q, trQ r]
  | .join a b q r => tl [.s "join", .s a, .s b, trQ q, trQ r]
  | .both q r => tl [.s "both", trQ q, trQ r]
  | .first n q => tl [.s "first", .i n, trQ q]
  | .group a b n s q => tl [.s "group", .s a, .s b, .s n, .s s, trQ q]
  | .sort a q => tl [.s "sort", .s a, trQ q]
def rawQ : Qn → Tr
  | .table n => .s n
  | q => trQ q
theorem all_tl {H : Hp} {l : List Tr} {p : Addr} {vs : List V} (hp : H p = some (.tup vs)) (h : AllAt H l vs) : TrAt H (tl l) (.ref p) := by
  unfold tl
  simp only [TrAt]
  exact ⟨p, vs, rfl, hp, h.trs⟩
theorem tr_s {H : Hp} (x : Str) : TrAt H (.s x) (.str x) := by simp only [TrAt]
theorem tr_i {H : Hp} (n : Int) : TrAt H (.i n) (.int n) := by simp only [TrAt]
theorem trS_at {H : Hp} (a : Side) : TrAt H (trS a) a.v := by
  cases a with
  | nm s => exact tr_s s
  | nu i => exact tr_i i
theorem trC_at {H : Hp} : ∀ {c : Cond} {v : V}, CondAt H c v → TrAt H (trC c) v
  | .less a b, v, h => by
    obtain ⟨p, rfl, hp⟩ := h
    exact all_tl hp (.cons (tr_s _) (.cons (trS_at a) (.cons (trS_at b) .nil)))
  | .same a b, v, h => by
    obtain ⟨p, rfl, hp⟩ := h
    exact all_tl hp (.cons (tr_s _) (.cons (trS_at a) (.cons (trS_at b) .nil)))
  | .no c, v, h => by
    obtain ⟨p, x, rfl, hp, h1⟩ := h
    exact all_tl hp (.cons (tr_s _) (.cons (trC_at h1) .nil))
  | .an c d, v, h => by
    obtain ⟨p, x, y, rfl, hp, h1, h2⟩ := h
    exact all_tl hp (.cons (tr_s _) (.cons (trC_at h1) (.cons (trC_at h2) .nil)))
  | .or c d, v, h => by
    obtain ⟨p, x, y, rfl, hp, h1, h2⟩ := h
    exact all_tl hp (.cons (tr_s _) (.cons (trC_at h1) (.cons (trC_at h2) .nil)))
theorem names_at {H : Hp} : ∀ ns : List Str, AllAt H (ns.map Tr.s) (ns.map V.str)
  | [] => .nil
  | n :: ns => .cons (tr_s n) (names_at ns)
theorem trQ_at {H : Hp} : ∀ {q : Qn} {v : V}, QAt H q v → TrAt H (trQ q) v
  | .table n, v, h => by
    obtain ⟨p, rfl, hp⟩ := h
    exact all_tl hp (.cons (tr_s _) (.cons (tr_s _) .nil))
  | .pick c q, v, h => by
    obtain ⟨p, x, y, rfl, hp, h1, h2⟩ := h
    exact all_tl hp (.cons (tr_s _) (.cons (trC_at h1) (.cons (trQ_at h2) .nil)))
  | .cols ns q, v, h => by
    obtain ⟨p, x, y, rfl, hp, h1, h2⟩ := h
    exact all_tl hp (.cons (tr_s _) (.cons (all_tl h1 (names_at ns)) (.cons (trQ_at h2) .nil)))
  | .pair q r, v, h => by
    obtain ⟨p, x, y, rfl, hp, h1, h2⟩ := h
    exact all_tl hp (.cons (tr_s _) (.cons (trQ_at h1) (.cons (trQ_at h2) .nil)))
  | .join a b q r, v, h => by
    obtain ⟨p, x, y, rfl, hp, h1, h2⟩ := h
    exact all_tl hp (.cons (tr_s _) (.cons (tr_s _) (.cons (tr_s _) (.cons (trQ_at h1) (.cons (trQ_at h2) .nil)))))
  | .both q r, v, h => by
    obtain ⟨p, x, y, rfl, hp, h1, h2⟩ := h
    exact all_tl hp (.cons (tr_s _) (.cons (trQ_at h1) (.cons (trQ_at h2) .nil)))
  | .first n q, v, h => by
    obtain ⟨p, y, rfl, hp, h1⟩ := h
    exact all_tl hp (.cons (tr_s _) (.cons (tr_i _) (.cons (trQ_at h1) .nil)))
  | .group a b n s q, v, h => by
    obtain ⟨p, y, rfl, hp, h1⟩ := h
    exact all_tl hp (.cons (tr_s _) (.cons (tr_s _) (.cons (tr_s _) (.cons (tr_s _) (.cons (tr_s _) (.cons (trQ_at h1) .nil))))))
  | .sort a q, v, h => by
    obtain ⟨p, y, rfl, hp, h1⟩ := h
    exact all_tl hp (.cons (tr_s _) (.cons (tr_s _) (.cons (trQ_at h1) .nil)))
def goodS : Side → Prop
  | .nm s => isNameP s = true
  | .nu i => i ∈ nums
def goodC : Cond → Prop
  | .less a b => goodS a ∧ goodS b
  | .same a b => goodS a ∧ goodS b
  | .no c => goodC c
  | .an c d => goodC c ∧ goodC d
  | .or c d => goodC c ∧ goodC d
def goodQ : Qn → Prop
  | .table n => isNameP n = true
  | .pick c q => goodC c ∧ goodQ q
  | .cols ns q => ns ≠ [] ∧ (∀ n ∈ ns, isNameP n = true) ∧ goodQ q
  | .pair q r => goodQ q ∧ goodQ r
  | .join a b q r => isNameP a = true ∧ isNameP b = true ∧ goodQ q ∧ goodQ r
  | .both q r => goodQ q ∧ goodQ r
  | .first n q => n ∈ manys ∧ goodQ q
  | .group a b n s q => isNameP a = true ∧ isNameP b = true ∧ isNameP n = true ∧ isNameP s = true ∧ goodQ q
  | .sort a q => isNameP a = true ∧ goodQ q
section
variable {th : Str → List Str} {tr : Str → List (List Int)}
theorem tab_good (T : TabOk th tr) : ∀ n ∈ tabs, ∀ s ∈ th n, isNameP s = true := by
  have hl : ∀ s ∈ letters, isNameP s = true := by decide +kernel
  have ht : ∀ s ∈ th "t", isNameP s = true := by
    obtain ⟨m, _, _, e⟩ := T.t
    rw [e]
    exact fun s hs => hl s (List.mem_of_mem_take hs)
  intro n hn
  have hn' : n = "t" ∨ n = "tuvtuvtuvw" ∨ n = "tuvtuvtuvx" ∨ n = "tuvz" := by
    unfold tabs at hn
    simpa using hn
  rcases hn' with rfl | rfl | rfl | rfl
  · exact ht
  · rw [T.w]; decide +kernel
  · rw [T.x]; decide +kernel
  · rw [T.z]; exact ht
theorem sign_good : ∀ g ∈ signs, isNameP (("n" : Str) ++ g) = true ∧ isNameP (("s" : Str) ++ g) = true := by decide +kernel
theorem head_good (T : TabOk th tr) : ∀ {q : Qn}, okQ th q → ∀ s ∈ headsOf th q, isNameP s = true
  | .table n, h => tab_good T n h
  | .pick _ q, h => head_good T (q := q) h.2.2
  | .cols ns q, h => fun s hs => head_good T (q := q) h.2.2.2 s (h.2.2.1 s hs)
  | .pair q r, h => fun s hs => by
    rcases List.mem_append.mp hs with hs | hs
    · exact head_good T (q := q) h.2.1 s hs
    · exact head_good T (q := r) h.2.2 s hs
  | .join a b q r, h => fun s hs => by
    rcases List.mem_append.mp hs with hs | hs
    · exact head_good T (q := q) h.2.2.2.1 s hs
    · exact head_good T (q := r) h.2.2.2.2 s hs
  | .both q r, h => head_good T (q := q) h.2.1
  | .first _ q, h => head_good T (q := q) h.2
  | .group a b n s q, h => fun x hx => by
    obtain ⟨ha, _, ⟨g, hg, rfl, rfl⟩, _, _, hq⟩ := h
    have hx' : x ∈ [a, ("n" : Str) ++ g, ("s" : Str) ++ g] := hx
    simp only [List.mem_cons, List.not_mem_nil, or_false] at hx'
    rcases hx' with rfl | rfl | rfl
    · exact head_good T (q := q) hq _ ha
    · exact (sign_good g hg).1
    · exact (sign_good g hg).2
  | .sort _ q, h => head_good T (q := q) h.2
theorem side_good {hs : List Str} (hn : ∀ n ∈ hs, isNameP n = true) : ∀ {a : Side}, Side.small hs a → goodS a
  | .nm s, h => hn s h
  | .nu i, h => h
theorem cond_good {hs : List Str} (hn : ∀ n ∈ hs, isNameP n = true) : ∀ {c : Cond}, csmall hs c → goodC c
  | .less a b, h => ⟨side_good hn h.1, side_good hn h.2⟩
  | .same a b, h => ⟨side_good hn h.1, side_good hn h.2⟩
  | .no c, h => cond_good hn (c := c) h
  | .an c d, h => ⟨cond_good hn h.1, cond_good hn h.2⟩
  | .or c d, h => ⟨cond_good hn h.1, cond_good hn h.2⟩
theorem good_of (T : TabOk th tr) : ∀ {q : Qn}, okQ th q → goodQ q
  | .table n, h => by
    have : ∀ n ∈ tabs, isNameP n = true := by decide +kernel
    exact this n h
  | .pick c q, h => ⟨cond_good (head_good T h.2.2) h.1, good_of T h.2.2⟩
  | .cols ns q, h => ⟨h.1, fun n hn => head_good T h.2.2.2 n (h.2.2.1 n hn), good_of T h.2.2.2⟩
  | .pair q r, h => ⟨good_of T h.2.1, good_of T h.2.2⟩
  | .join a b q r, h => ⟨head_good T h.2.2.2.1 a h.1, head_good T h.2.2.2.2 b h.2.1, good_of T h.2.2.2.1, good_of T h.2.2.2.2⟩
  | .both q r, h => ⟨good_of T h.2.1, good_of T h.2.2⟩
  | .first n q, h => ⟨h.1, good_of T h.2⟩
  | .group a b n s q, h => by
    obtain ⟨ha, hb, ⟨g, hg, rfl, rfl⟩, _, _, hq⟩ := h
    exact ⟨head_good T hq a ha, head_good T hq b hb, (sign_good g hg).1, (sign_good g hg).2, good_of T hq⟩
  | .sort a q, h => ⟨head_good T h.2 a h.1, good_of T h.2⟩
end
theorem name_atom {x : Str} (h : isNameP x = true) : AtomOk x := by
  unfold isNameP at h
  rw [Bool.and_eq_true, List.all_eq_true] at h
  refine ⟨fun e => ?_, fun c hc => ?_⟩
  · have hx : x = "" := str_ext (by rw [e]; decide +kernel)
    have h1 := h.1
    rw [decide_eq_true hx] at h1
    cases h1
  · have h2 : c ∈ lowers.cps.toList := by simpa using h.2 c hc
    have h3 : ∀ c ∈ lowers.cps.toList, c ≠ 40 ∧ c ≠ 41 ∧ c ≠ 32 := by decide +kernel
    exact h3 c h2
theorem num_facts : ∀ i ∈ nums, isNameP (toString i) = false ∧ isNumberP (toString i) = true ∧ numberP (toString i) = i ∧ (toString i : Str).cps.toList ≠ [] ∧ ∀ c ∈ (toString i : Str).cps.toList, c ≠ 40 ∧ c ≠ 41 ∧ c ≠ 32 := by decide +kernel
theorem many_facts : ∀ i ∈ manys, isNameP (toString i) = false ∧ isNumberP (toString i) = true ∧ numberP (toString i) = i ∧ Txt.startswith (toString i) "-" = false ∧ (toString i : Str).cps.toList ≠ [] ∧ ∀ c ∈ (toString i : Str).cps.toList, c ≠ 40 ∧ c ≠ 41 ∧ c ≠ 32 := by decide +kernel
theorem takenP_s (form x : Str) : takenP form (.s x) = if isNameP x = true then (if form = "question" then some (.t (.cons (.s "table") (.cons (.s x) .nil))) else if form = "name" ∨ form = "side" then some (.s x) else none)
    else if isNumberP x = true then (if form = "side" ∨ (form = "size" ∧ Txt.startswith x "-" = false) then some (.i (numberP x)) else none) else none := by simp only [takenP]
theorem takenP_t (form w : Str) (r : Trs) : takenP form (.t (.cons (.s w) r)) = if form = formOfP w then some (.t (.cons (.s w) r)) else none := by simp only [takenP]
theorem n_q : ("name" : Str) ≠ "question" := by decide +kernel
theorem s_q : ("side" : Str) ≠ "question" := by decide +kernel
theorem taken_name {x : Str} (h : isNameP x = true) : takenP "name" (.s x) = some (.s x) := by
  rw [takenP_s, if_pos h, if_neg n_q, if_pos (.inl rfl)]
theorem taken_side {a : Side} (h : goodS a) : takenP "side" (.s (Side.txt a)) = some (trS a) := by
  cases a with
  | nm s =>
    show takenP "side" (.s s) = some (.s s)
    have h : isNameP s = true := h
    rw [takenP_s, if_pos h, if_neg s_q, if_pos (.inr rfl)]
  | nu i =>
    obtain ⟨h1, h2, h3, _⟩ := num_facts i h
    show takenP "side" (.s (toString i)) = some (.i i)
    rw [takenP_s, if_neg (by rw [h1]; simp), if_pos h2, if_pos (.inl rfl), h3]
theorem taken_size {n : Int} (h : n ∈ manys) : takenP "size" (.s (toString n)) = some (.i n) := by
  obtain ⟨h1, h2, h3, h4, _⟩ := many_facts n h
  rw [takenP_s, if_neg (by rw [h1]; simp), if_pos h2, if_pos (.inr ⟨rfl, h4⟩), h3]
theorem taken_c (c : Cond) : takenP "condition" (trC c) = some (trC c) := by
  cases c <;> exact (takenP_t _ _ _).trans (if_pos (by decide +kernel))
theorem taken_q {q : Qn} (h : goodQ q) : takenP "question" (rawQ q) = some (trQ q) := by
  cases q with
  | table n =>
    have h : isNameP n = true := h
    show takenP "question" (.s n) = _
    rw [takenP_s, if_pos h, if_pos rfl]
    rfl
  | _ => exact (takenP_t _ _ _).trans (if_pos (by decide +kernel))
theorem made_of {W : Str} {ts ks : List Tr} {fs : List Str} (hW : W ≠ "cols") (hf0 : formsP W 0 = some fs) (hk : keptP fs ts = some ks) : madeP W ts = some (tl (.s W :: ks)) := by
  have hf : formsP W ts.length = some fs := by
    unfold formsP at hf0 ⊢
    rw [if_neg hW] at hf0 ⊢
    exact hf0
  unfold madeP
  rw [hf]
  simp only
  rw [if_pos (kept_len hk).1, hk]
  simp only
  rw [if_neg hW]
  rfl
theorem kept1 {f : Str} {a a' : Tr} (h : takenP f a = some a') : keptP [f] [a] = some [a'] := by simp only [keptP, h]
theorem kept_cons {f : Str} {fs : List Str} {a a' : Tr} {ts ks : List Tr} (h : takenP f a = some a') (hr : keptP fs ts = some ks) : keptP (f :: fs) (a :: ts) = some (a' :: ks) := by simp only [keptP, h, hr]
theorem kept_cols {ns : List Str} (h : ∀ n ∈ ns, isNameP n = true) {a a' : Tr} (ha : takenP "question" a = some a') : keptP (List.replicate ns.length ("name" : Str) ++ [("question" : Str)]) (ns.map Tr.s ++ [a]) = some (ns.map Tr.s ++ [a']) := by
  induction ns with
  | nil => exact kept1 ha
  | cons n ns ih => exact kept_cons (taken_name (h n List.mem_cons_self)) (ih fun m hm => h m (List.mem_cons_of_mem _ hm))
theorem made_cols {ns : List Str} (h0 : ns ≠ []) (h : ∀ n ∈ ns, isNameP n = true) {a a' : Tr} (ha : takenP "question" a = some a') : madeP "cols" (ns.map Tr.s ++ [a]) = some (tl [.s "cols", tl (ns.map Tr.s), a']) := by
  have hl : (ns.map Tr.s ++ [a]).length = ns.length + 1 := by rw [List.length_append, List.length_map]; rfl
  have hp : 0 < ns.length := List.length_pos_iff.mpr h0
  have hf : formsP "cols" (ns.map Tr.s ++ [a]).length = some (List.replicate ns.length ("name" : Str) ++ [("question" : Str)]) := by
    unfold formsP
    rw [if_pos rfl, hl, show max (ns.length + 1 - 1) 1 = ns.length by omega]
  unfold madeP
  rw [hf]
  simp only
  rw [if_pos (by rw [hl, List.length_append, List.length_replicate]; rfl), kept_cols h ha]
  simp only
  rw [if_pos trivial, List.dropLast_concat, List.getLastD_concat]
  rfl
def sideE (a : Side) : Elem := atomE (Side.txt a)
def elC : Cond → Elem
  | .less a b => brkE "less" [sideE a] (sideE b) (trC (.less a b))
  | .same a b => brkE "same" [sideE a] (sideE b) (trC (.same a b))
  | .no c => brkE "not" [] (elC c) (trC (.no c))
  | .an c d => brkE "and" [elC c] (elC d) (trC (.an c d))
  | .or c d => brkE "or" [elC c] (elC d) (trC (.or c d))
def elQ : Qn → Elem
  | .table n => atomE n
  | .pick c q => brkE "pick" [elC c] (elQ q) (trQ (.pick c q))
  | .cols ns q => brkE "cols" (ns.map atomE) (elQ q) (trQ (.cols ns q))
  | .pair q r => brkE "pair" [elQ q] (elQ r) (trQ (.pair q r))
  | .join a b q r => brkE "join" [atomE a, atomE b, elQ q] (elQ r) (trQ (.join a b q r))
  | .both q r => brkE "both" [elQ q] (elQ r) (trQ (.both q r))
  | .first n q => brkE "first" [atomE (toString n)] (elQ q) (trQ (.first n q))
  | .group a b n s q => brkE "group" [atomE a, atomE b, atomE n, atomE s] (elQ q) (trQ (.group a b n s q))
  | .sort a q => brkE "sort" [atomE a] (elQ q) (trQ (.sort a q))
theorem elC_raw (c : Cond) : (elC c).raw = trC c := by cases c <;> rfl
theorem elQ_raw (q : Qn) : (elQ q).raw = rawQ q := by cases q <;> rfl
theorem side_atom {a : Side} (h : goodS a) : AtomOk (Side.txt a) := by
  cases a with
  | nm s => exact name_atom h
  | nu i => exact ⟨(num_facts i h).2.2.2.1, (num_facts i h).2.2.2.2⟩
theorem one {P : Elem → Prop} {a : Elem} (h : P a) : ∀ x ∈ [a], P x := fun x hx => by rw [List.mem_singleton.mp hx]; exact h
theorem elC_good : ∀ {c : Cond}, goodC c → Good (elC c)
  | .less a b, h => brk_good (one (atom_good (side_atom h.1))) (atom_good (side_atom h.2)) (made_of (by decide +kernel) (fs := ["side", "side"]) (by decide +kernel) (kept_cons (taken_side h.1) (kept1 (taken_side h.2))))
  | .same a b, h => brk_good (one (atom_good (side_atom h.1))) (atom_good (side_atom h.2)) (made_of (by decide +kernel) (fs := ["side", "side"]) (by decide +kernel) (kept_cons (taken_side h.1) (kept1 (taken_side h.2))))
  | .no c, h => brk_good (fun x hx => by cases hx) (elC_good (c := c) h) (made_of (by decide +kernel) (fs := ["condition"]) (by decide +kernel) (by rw [elC_raw]; exact kept1 (taken_c c)))
  | .an c d, h => brk_good (one (elC_good h.1)) (elC_good h.2) (made_of (by decide +kernel) (fs := ["condition", "condition"]) (by decide +kernel) (by rw [elC_raw]; exact kept_cons (by show takenP _ (elC c).raw = _; rw [elC_raw]; exact taken_c c) (kept1 (taken_c d))))
  | .or c d, h => brk_good (one (elC_good h.1)) (elC_good h.2) (made_of (by decide +kernel) (fs := ["condition", "condition"]) (by decide +kernel) (by rw [elC_raw]; exact kept_cons (by show takenP _ (elC c).raw = _; rw [elC_raw]; exact taken_c c) (kept1 (taken_c d))))
theorem tq {q : Qn} (h : goodQ q) : takenP "question" (elQ q).raw = some (trQ q) := by rw [elQ_raw]; exact taken_q h
theorem tc (c : Cond) : takenP "condition" (elC c).raw = some (trC c) := by rw [elC_raw]; exact taken_c c
theorem elQ_good : ∀ {q : Qn}, goodQ q → Good (elQ q)
  | .table n, h => atom_good (name_atom h)
  | .pick c q, h => brk_good (one (elC_good h.1)) (elQ_good h.2) (made_of (by decide +kernel) (fs := ["condition", "question"]) (by decide +kernel) (kept_cons (tc c) (kept1 (tq h.2))))
  | .cols ns q, h => brk_good (fun x hx => by
      obtain ⟨n, hn, rfl⟩ := List.mem_map.mp hx
      exact atom_good (name_atom (h.2.1 n hn))) (elQ_good h.2.2) (by
      have e : (ns.map atomE).map (·.raw) = ns.map Tr.s := by rw [List.map_map]; rfl
      rw [e]
      exact made_cols h.1 h.2.1 (tq h.2.2))
  | .pair q r, h => brk_good (one (elQ_good h.1)) (elQ_good h.2) (made_of (by decide +kernel) (fs := ["question", "question"]) (by decide +kernel) (kept_cons (tq h.1) (kept1 (tq h.2))))
  | .join a b q r, h => brk_good (fun x hx => by
      simp only [List.mem_cons, List.not_mem_nil, or_false] at hx
      rcases hx with rfl | rfl | rfl
      · exact atom_good (name_atom h.1)
      · exact atom_good (name_atom h.2.1)
      · exact elQ_good h.2.2.1) (elQ_good h.2.2.2) (made_of (by decide +kernel) (fs := ["name", "name", "question", "question"]) (by decide +kernel) (kept_cons (taken_name h.1) (kept_cons (taken_name h.2.1) (kept_cons (tq h.2.2.1) (kept1 (tq h.2.2.2))))))
  | .both q r, h => brk_good (one (elQ_good h.1)) (elQ_good h.2) (made_of (by decide +kernel) (fs := ["question", "question"]) (by decide +kernel) (kept_cons (tq h.1) (kept1 (tq h.2))))
  | .first n q, h => brk_good (one (atom_good ⟨(many_facts n h.1).2.2.2.2.1, (many_facts n h.1).2.2.2.2.2⟩)) (elQ_good h.2) (made_of (by decide +kernel) (fs := ["size", "question"]) (by decide +kernel) (kept_cons (taken_size h.1) (kept1 (tq h.2))))
  | .group a b n s q, h => brk_good (fun x hx => by
      simp only [List.mem_cons, List.not_mem_nil, or_false] at hx
      rcases hx with rfl | rfl | rfl | rfl
      · exact atom_good (name_atom h.1)
      · exact atom_good (name_atom h.2.1)
      · exact atom_good (name_atom h.2.2.1)
      · exact atom_good (name_atom h.2.2.2.1)) (elQ_good h.2.2.2.2) (made_of (by decide +kernel) (fs := ["name", "name", "name", "name", "question"]) (by decide +kernel) (kept_cons (taken_name h.1) (kept_cons (taken_name h.2.1) (kept_cons (taken_name h.2.2.1) (kept_cons (taken_name h.2.2.2.1) (kept1 (tq h.2.2.2.2)))))))
  | .sort a q, h => brk_good (one (atom_good (name_atom h.1))) (elQ_good h.2) (made_of (by decide +kernel) (fs := ["name", "question"]) (by decide +kernel) (kept_cons (taken_name h.1) (kept1 (tq h.2))))
theorem sp_one (x : Str) : sp [x] = 32 :: x.cps.toList := by simp [sp]
theorem sp_cons (x : Str) (r : List Str) : sp (x :: r) = 32 :: (x.cps.toList ++ sp r) := by simp [sp]
theorem sp_nil : sp [] = [] := rfl
theorem l41 : (")" : Str).cps.toList = [41] := by decide +kernel
theorem l40 : ("(" : Str).cps.toList = [40] := by decide +kernel
theorem l32 : (" " : Str).cps.toList = [32] := by decide +kernel
theorem lw_pick : ("(pick " : Str).cps.toList = 40 :: (("pick" : Str).cps.toList ++ [32]) := by decide +kernel
theorem lw_cols : ("(cols " : Str).cps.toList = 40 :: (("cols" : Str).cps.toList ++ [32]) := by decide +kernel
theorem lw_pair : ("(pair " : Str).cps.toList = 40 :: (("pair" : Str).cps.toList ++ [32]) := by decide +kernel
theorem lw_join : ("(join " : Str).cps.toList = 40 :: (("join" : Str).cps.toList ++ [32]) := by decide +kernel
theorem lw_both : ("(both " : Str).cps.toList = 40 :: (("both" : Str).cps.toList ++ [32]) := by decide +kernel
theorem lw_first : ("(first " : Str).cps.toList = 40 :: (("first" : Str).cps.toList ++ [32]) := by decide +kernel
theorem lw_group : ("(group " : Str).cps.toList = 40 :: (("group" : Str).cps.toList ++ [32]) := by decide +kernel
theorem lw_sort : ("(sort " : Str).cps.toList = 40 :: (("sort" : Str).cps.toList ++ [32]) := by decide +kernel
theorem one2 {a : Elem} {x : Str} (h : LineE a x) : ∀ z ∈ [(a, x)], LineE z.1 z.2 := fun z hz => by rw [List.mem_singleton.mp hz]; exact h
theorem elC_line : ∀ {c : Cond}, goodC c → LineE (elC c) (spell c)
  | .less a b, h => brk_line (ex := [(sideE a, Side.txt a)]) (by decide +kernel) (one2 (atom_line (side_atom h.1))) (atom_line (side_atom h.2)) (by simp only [spell, ends, app_list, l40, l41, l32, List.map_cons, List.map_nil, sp_one]; simp)
  | .same a b, h => brk_line (ex := [(sideE a, Side.txt a)]) (by decide +kernel) (one2 (atom_line (side_atom h.1))) (atom_line (side_atom h.2)) (by simp only [spell, ends, app_list, l40, l41, l32, List.map_cons, List.map_nil, sp_one]; simp)
  | .no c, h => brk_line (ex := []) (by decide +kernel) (fun z hz => by cases hz) (elC_line (c := c) h) (by simp only [spell, app_list, l40, l41, l32, List.map_nil, sp_nil]; simp)
  | .an c d, h => brk_line (ex := [(elC c, spell c)]) (by decide +kernel) (one2 (elC_line h.1)) (elC_line h.2) (by simp only [spell, app_list, l40, l41, l32, List.map_cons, List.map_nil, sp_one]; simp)
  | .or c d, h => brk_line (ex := [(elC c, spell c)]) (by decide +kernel) (one2 (elC_line h.1)) (elC_line h.2) (by simp only [spell, app_list, l40, l41, l32, List.map_cons, List.map_nil, sp_one]; simp)
theorem elQ_line : ∀ {q : Qn}, goodQ q → LineE (elQ q) (lineOf q)
  | .table n, h => atom_line (name_atom h)
  | .pick c q, h => brk_line (ex := [(elC c, spell c)]) (by decide +kernel) (one2 (elC_line h.1)) (elQ_line h.2) (by simp only [lineOf, app_list, lw_pick, l41, l32, List.map_cons, List.map_nil, sp_one]; simp)
  | .cols ns q, h => by
    have e : ns.map atomE = (ns.map fun n => (atomE n, n)).map (·.1) := by rw [List.map_map]; rfl
    have e2 : (ns.map fun n => (atomE n, n)).map (·.2) = ns := by rw [List.map_map]; exact List.map_id _
    show LineE (brkE "cols" (ns.map atomE) (elQ q) (trQ (.cols ns q))) _
    rw [e]
    refine brk_line (by decide +kernel) (fun z hz => ?_) (elQ_line h.2.2) ?_
    · obtain ⟨n, hn, rfl⟩ := List.mem_map.mp hz
      exact atom_line (name_atom (h.2.1 n hn))
    · rw [e2, sp_join h.1]
      simp only [lineOf, app_list, lw_cols, l41, l32]
      simp
  | .pair q r, h => brk_line (ex := [(elQ q, lineOf q)]) (by decide +kernel) (one2 (elQ_line h.1)) (elQ_line h.2) (by simp only [lineOf, app_list, lw_pair, l41, l32, List.map_cons, List.map_nil, sp_one]; simp)
  | .join a b q r, h => brk_line (ex := [(atomE a, a), (atomE b, b), (elQ q, lineOf q)]) (by decide +kernel) (fun z hz => by
      simp only [List.mem_cons, List.not_mem_nil, or_false] at hz
      rcases hz with rfl | rfl | rfl
      · exact atom_line (name_atom h.1)
      · exact atom_line (name_atom h.2.1)
      · exact elQ_line h.2.2.1) (elQ_line h.2.2.2) (by simp only [lineOf, app_list, lw_join, l41, l32, List.map_cons, List.map_nil, sp_cons, sp_nil]; simp)
  | .both q r, h => brk_line (ex := [(elQ q, lineOf q)]) (by decide +kernel) (one2 (elQ_line h.1)) (elQ_line h.2) (by simp only [lineOf, app_list, lw_both, l41, l32, List.map_cons, List.map_nil, sp_one]; simp)
  | .first n q, h => brk_line (ex := [(atomE (toString n), toString n)]) (by decide +kernel) (one2 (atom_line ⟨(many_facts n h.1).2.2.2.2.1, (many_facts n h.1).2.2.2.2.2⟩)) (elQ_line h.2) (by simp only [lineOf, app_list, lw_first, l41, l32, List.map_cons, List.map_nil, sp_one]; simp)
  | .group a b n s q, h => brk_line (ex := [(atomE a, a), (atomE b, b), (atomE n, n), (atomE s, s)]) (by decide +kernel) (fun z hz => by
      simp only [List.mem_cons, List.not_mem_nil, or_false] at hz
      rcases hz with rfl | rfl | rfl | rfl
      · exact atom_line (name_atom h.1)
      · exact atom_line (name_atom h.2.1)
      · exact atom_line (name_atom h.2.2.1)
      · exact atom_line (name_atom h.2.2.2.1)) (elQ_line h.2.2.2.2) (by simp only [lineOf, app_list, lw_group, l41, l32, List.map_cons, List.map_nil, sp_cons, sp_nil]; simp)
  | .sort a q, h => brk_line (ex := [(atomE a, a)]) (by decide +kernel) (one2 (atom_line (name_atom h.1))) (elQ_line h.2) (by simp only [lineOf, app_list, lw_sort, l41, l32, List.map_cons, List.map_nil, sp_one]; simp)
theorem line_reads {q : Qn} (h : goodQ q) : ∃ init last st t, Txt.split (lineOf q) " " = init ++ [last] ∧ runP [] init = some st ∧ loopP (brOf last) st (.s (baseOf last)) = some t ∧ st.drop (brOf last) = [] ∧ takenP "question" t = some (trQ q) := by
  obtain ⟨pre, last, st1, e1, e2, e3, e4, e5⟩ := elQ_good h 0 [] (Nat.zero_le _)
  obtain ⟨a1, a2, a3⟩ := elQ_line h 0
  have hj : Str.join " " ((elQ q).toks 0) = lineOf q := by
    rw [sp_join a1] at a2
    apply str_ext
    have := (List.cons.inj a2).2
    rw [this, List.replicate_zero, List.append_nil]
  have hs : Txt.split (lineOf q) " " = (elQ q).toks 0 := by
    rw [← hj, blank_eq]
    exact split_of a1 a3
  exact ⟨pre, last, st1, (elQ q).raw, by rw [hs, e1], e2, e4, e5, tq h⟩
theorem tl_size (l : List Tr) : (tl l).size = 1 + (l.map Tr.size).sum := by
  unfold tl
  simp only [Tr.size]
  congr 1
  induction l with
  | nil => rfl
  | cons a r ih => simp only [Trs.of, Trs.size, List.map_cons, List.sum_cons, ih]
theorem trS_size (a : Side) : (trS a).size = 1 := by cases a <;> rfl
theorem trC_size : ∀ c : Cond, (trC c).size ≤ 3 * (spell c).length
  | .less a b => by simp only [trC, tl_size, List.map_cons, List.map_nil, List.sum_cons, List.sum_nil, trS_size, Tr.size, spell]; (simp only [Str.length_append, l_open, l_close, l_blank, l_less, l_same, l_not, l_and, l_or, l_pick, l_cols, l_sort, l_first, l_both, l_pair, l_join, l_group, l_picks, l_cb, l_n, l_s, l_bn, l_bs, PySem.sizeLine_eq]; try omega)
  | .same a b => by simp only [trC, tl_size, List.map_cons, List.map_nil, List.sum_cons, List.sum_nil, trS_size, Tr.size, spell]; (simp only [Str.length_append, l_open, l_close, l_blank, l_less, l_same, l_not, l_and, l_or, l_pick, l_cols, l_sort, l_first, l_both, l_pair, l_join, l_group, l_picks, l_cb, l_n, l_s, l_bn, l_bs, PySem.sizeLine_eq]; try omega)
  | .no c => by have := trC_size c; simp only [trC, tl_size, List.map_cons, List.map_nil, List.sum_cons, List.sum_nil, Tr.size, spell]; (simp only [Str.length_append, l_open, l_close, l_blank, l_less, l_same, l_not, l_and, l_or, l_pick, l_cols, l_sort, l_first, l_both, l_pair, l_join, l_group, l_picks, l_cb, l_n, l_s, l_bn, l_bs, PySem.sizeLine_eq]; try omega)
  | .an c d => by have := trC_size c; have := trC_size d; simp only [trC, tl_size, List.map_cons, List.map_nil, List.sum_cons, List.sum_nil, Tr.size, spell]; (simp only [Str.length_append, l_open, l_close, l_blank, l_less, l_same, l_not, l_and, l_or, l_pick, l_cols, l_sort, l_first, l_both, l_pair, l_join, l_group, l_picks, l_cb, l_n, l_s, l_bn, l_bs, PySem.sizeLine_eq]; try omega)
  | .or c d => by have := trC_size c; have := trC_size d; simp only [trC, tl_size, List.map_cons, List.map_nil, List.sum_cons, List.sum_nil, Tr.size, spell]; (simp only [Str.length_append, l_open, l_close, l_blank, l_less, l_same, l_not, l_and, l_or, l_pick, l_cols, l_sort, l_first, l_both, l_pair, l_join, l_group, l_picks, l_cb, l_n, l_s, l_bn, l_bs, PySem.sizeLine_eq]; try omega)
theorem names_size : ∀ ns : List Str, ((ns.map Tr.s).map Tr.size).sum = ns.length
  | [] => rfl
  | n :: ns => by
    have := names_size ns
    simp only [List.map_cons, List.sum_cons, List.length_cons, Tr.size] at this ⊢
    omega
theorem trQ_size : ∀ q : Qn, (trQ q).size ≤ 3 * (lineOf q).length + 3
  | .table n => by simp only [trQ, tl_size, List.map_cons, List.map_nil, List.sum_cons, List.sum_nil, Tr.size]; omega
  | .pick c q => by have := trC_size c; have := trQ_size q; simp only [trQ, tl_size, List.map_cons, List.map_nil, List.sum_cons, List.sum_nil, Tr.size, lineOf]; (simp only [Str.length_append, l_open, l_close, l_blank, l_less, l_same, l_not, l_and, l_or, l_pick, l_cols, l_sort, l_first, l_both, l_pair, l_join, l_group, l_picks, l_cb, l_n, l_s, l_bn, l_bs, PySem.sizeLine_eq]; try omega)
  | .cols ns q => by have := join_ge ns; have := trQ_size q; simp only [trQ, tl_size, List.map_cons, List.map_nil, List.sum_cons, List.sum_nil, names_size, Tr.size, lineOf]; (simp only [Str.length_append, l_open, l_close, l_blank, l_less, l_same, l_not, l_and, l_or, l_pick, l_cols, l_sort, l_first, l_both, l_pair, l_join, l_group, l_picks, l_cb, l_n, l_s, l_bn, l_bs, PySem.sizeLine_eq]; try omega)
  | .pair q r => by have := trQ_size q; have := trQ_size r; simp only [trQ, tl_size, List.map_cons, List.map_nil, List.sum_cons, List.sum_nil, Tr.size, lineOf]; (simp only [Str.length_append, l_open, l_close, l_blank, l_less, l_same, l_not, l_and, l_or, l_pick, l_cols, l_sort, l_first, l_both, l_pair, l_join, l_group, l_picks, l_cb, l_n, l_s, l_bn, l_bs, PySem.sizeLine_eq]; try omega)
  | .join a b q r => by have := trQ_size q; have := trQ_size r; simp only [trQ, tl_size, List.map_cons, List.map_nil, List.sum_cons, List.sum_nil, Tr.size, lineOf]; (simp only [Str.length_append, l_open, l_close, l_blank, l_less, l_same, l_not, l_and, l_or, l_pick, l_cols, l_sort, l_first, l_both, l_pair, l_join, l_group, l_picks, l_cb, l_n, l_s, l_bn, l_bs, PySem.sizeLine_eq]; try omega)
  | .both q r => by have := trQ_size q; have := trQ_size r; simp only [trQ, tl_size, List.map_cons, List.map_nil, List.sum_cons, List.sum_nil, Tr.size, lineOf]; (simp only [Str.length_append, l_open, l_close, l_blank, l_less, l_same, l_not, l_and, l_or, l_pick, l_cols, l_sort, l_first, l_both, l_pair, l_join, l_group, l_picks, l_cb, l_n, l_s, l_bn, l_bs, PySem.sizeLine_eq]; try omega)
  | .first n q => by have := trQ_size q; simp only [trQ, tl_size, List.map_cons, List.map_nil, List.sum_cons, List.sum_nil, Tr.size, lineOf]; (simp only [Str.length_append, l_open, l_close, l_blank, l_less, l_same, l_not, l_and, l_or, l_pick, l_cols, l_sort, l_first, l_both, l_pair, l_join, l_group, l_picks, l_cb, l_n, l_s, l_bn, l_bs, PySem.sizeLine_eq]; try omega)
  | .group a b n s q => by have := trQ_size q; simp only [trQ, tl_size, List.map_cons, List.map_nil, List.sum_cons, List.sum_nil, Tr.size, lineOf]; (simp only [Str.length_append, l_open, l_close, l_blank, l_less, l_same, l_not, l_and, l_or, l_pick, l_cols, l_sort, l_first, l_both, l_pair, l_join, l_group, l_picks, l_cb, l_n, l_s, l_bn, l_bs, PySem.sizeLine_eq]; try omega)
  | .sort a q => by have := trQ_size q; simp only [trQ, tl_size, List.map_cons, List.map_nil, List.sum_cons, List.sum_nil, Tr.size, lineOf]; (simp only [Str.length_append, l_open, l_close, l_blank, l_less, l_same, l_not, l_and, l_or, l_pick, l_cols, l_sort, l_first, l_both, l_pair, l_join, l_group, l_picks, l_cb, l_n, l_s, l_bn, l_bs, PySem.sizeLine_eq]; try omega)
theorem nums_c : ∀ {c : Cond}, goodC c → numsOk c
  | .less a b, h => ⟨by cases a with | nm s => exact trivial | nu i => exact (num_len i h.1).2, by cases b with | nm s => exact trivial | nu i => exact (num_len i h.2).2⟩
  | .same a b, h => ⟨by cases a with | nm s => exact trivial | nu i => exact (num_len i h.1).2, by cases b with | nm s => exact trivial | nu i => exact (num_len i h.2).2⟩
  | .no c, h => nums_c (c := c) h
  | .an c d, h => ⟨nums_c h.1, nums_c h.2⟩
  | .or c d, h => ⟨nums_c h.1, nums_c h.2⟩
theorem many_log : ∀ n ∈ manys, n.natAbs.log2 < 1920 := by decide +kernel
section
variable {th : Str → List Str} {tr : Str → List (List Int)}
theorem tab_in (T : TabOk th tr) : ∀ n ∈ tabs, ∀ s ∈ th n, s ∈ pool 26 3 := by
  have hl : ∀ s ∈ letters, s ∈ pool 26 3 := by decide +kernel
  have ht : ∀ s ∈ th "t", s ∈ pool 26 3 := by
    obtain ⟨m, _, _, e⟩ := T.t
    rw [e]
    exact fun s hs => hl s (List.mem_of_mem_take hs)
  intro n hn
  have hn' : n = "t" ∨ n = "tuvtuvtuvw" ∨ n = "tuvtuvtuvx" ∨ n = "tuvz" := by
    unfold tabs at hn
    simpa using hn
  rcases hn' with rfl | rfl | rfl | rfl
  · exact ht
  · rw [T.w]; decide +kernel
  · rw [T.x]; decide +kernel
  · rw [T.z]; exact ht
theorem sign_in : ∀ g ∈ signs, (("n" : Str) ++ g) ∈ pool 26 3 ∧ (("s" : Str) ++ g) ∈ pool 26 3 := by decide +kernel
theorem head_in (T : TabOk th tr) : ∀ {q : Qn}, okQ th q → ∀ s ∈ headsOf th q, s ∈ pool 26 3
  | .table n, h => tab_in T n h
  | .pick _ q, h => head_in T (q := q) h.2.2
  | .cols ns q, h => fun s hs => head_in T (q := q) h.2.2.2 s (h.2.2.1 s hs)
  | .pair q r, h => fun s hs => by
    rcases List.mem_append.mp hs with hs | hs
    · exact head_in T (q := q) h.2.1 s hs
    · exact head_in T (q := r) h.2.2 s hs
  | .join a b q r, h => fun s hs => by
    rcases List.mem_append.mp hs with hs | hs
    · exact head_in T (q := q) h.2.2.2.1 s hs
    · exact head_in T (q := r) h.2.2.2.2 s hs
  | .both q r, h => head_in T (q := q) h.2.1
  | .first _ q, h => head_in T (q := q) h.2
  | .group a b n s q, h => fun x hx => by
    obtain ⟨ha, _, ⟨g, hg, rfl, rfl⟩, _, _, hq⟩ := h
    have hx' : x ∈ [a, ("n" : Str) ++ g, ("s" : Str) ++ g] := hx
    simp only [List.mem_cons, List.not_mem_nil, or_false] at hx'
    rcases hx' with rfl | rfl | rfl
    · exact head_in T (q := q) hq _ ha
    · exact (sign_in g hg).1
    · exact (sign_in g hg).2
  | .sort _ q, h => head_in T (q := q) h.2
theorem numsQ_of (T : TabOk th tr) : ∀ {q : Qn}, okQ th q → numsQ q
  | .table n, h => trivial
  | .pick c q, h => ⟨nums_c (cond_good (head_good T h.2.2) h.1), numsQ_of T h.2.2⟩
  | .cols ns q, h => ⟨h.1, Nat.le_trans (nodup_len h.2.1 fun n hn => head_in T h.2.2.2 n (h.2.2.1 n hn)) (Nat.le_trans pool_len (by decide)), numsQ_of T h.2.2.2⟩
  | .pair q r, h => ⟨numsQ_of T h.2.1, numsQ_of T h.2.2⟩
  | .join a b q r, h => ⟨numsQ_of T h.2.2.2.1, numsQ_of T h.2.2.2.2⟩
  | .both q r, h => ⟨numsQ_of T h.2.1, numsQ_of T h.2.2⟩
  | .first n q, h => ⟨many_log n h.1, numsQ_of T h.2⟩
  | .group a b n s q, h => numsQ_of T (q := q) h.2.2.2.2.2
  | .sort a q, h => numsQ_of T (q := q) h.2
end
def spLaw (K : PySem.W.Frag) : Sp := fun vs H Q _ => ∃ (a : Addr) (ns : List Int), vs = [.ref a] ∧ SqL K H a (ns.map V.int) ∧ ns.length ≤ 63 ∧ ∀ H', Q (.bl true) H'
theorem sc_law : FnScope ["_law_script", "_law_state", "_law_found"] ["_law_script"] (defScope s_law) := ⟨rfl, rfl, rfl, by decide +kernel, rfl, by decide +kernel, by decide +kernel⟩
theorem ok_law (F : Fun K "law" "law" s_law f fd) (T : Txt K mg) (C_law_wide : Kn P w K mg base 1 "_law_wide" ["_law_script", "_law_few", "_law_bound"] (spWide K)) (C_law_stocked : Kn P w K mg base 1 "_law_stocked" ["_law_cells", "_law_more"] (spStocked K)) (C_law_grown : Kn P w K mg base 10 "_law_grown" ["_law_cells", "_law_tables"] (spGrown K))
    (Cshown : Kn P w K mg base 3 "shown" ["question"] (spShown K)) (Cread : Kn P w K mg base 5 "read" ["line"] (spRead K)) (C_law_like : Kn P w K mg base 2 "_law_like" ["_law_found", "_law_due"] (spLike K)) : FnOk P w K mg base CX0 11 f fd ["_law_script"] (spLaw K) := by
  refine F.ok sc_law (fun vs H Q E h => ?_) (fun cdv A outer s H vs Q E hr h => ?_)
  · obtain ⟨a, ns, rfl, _⟩ := h
    rfl
  obtain ⟨a, ns, rfl, hS, hn, q⟩ := h
  refine ⟨_, (pss_cons (ps_set (i := 1) sc_law.nd rfl (Or.inl rfl) (pe_callF C_law_grown (hr.mono (by first | decide | omega)) rfl (pa_conS (pe_slice sl_list (pv 0) po_none (po_some pe_int)) (pa_conK (pe_callF C_law_stocked (hr.mono (by first | decide | omega)) rfl (pa_conS (pe_slice sl_list (pv 0) (po_some pe_int) (po_some pe_int)) (pa_conK (pe_callF C_law_wide (hr.mono (by first | decide | omega)) rfl (pa_conN (pv 0) (pa_conC pe_int (pa_conC pe_int pa_nil)))) pa_nil))) pa_nil))))
    (pss_cons (ps_set (i := 2) sc_law.nd rfl (Or.inl rfl) (pe_callF Cshown (hr.mono (by first | decide | omega)) rfl (pa_conS (pe_ix ix_tup (pv 1) pe_int (fun _ _ => rfl)) pa_nil)))
    (pss_cons (ps_if (pt_orP (pt_not (pt_val (pe_callB call_isinst rfl T.isinstance PyProof.Rows.boot_isinstance (pa_conN (pv 2) (pa_conN (pe_bltn (v := .ty "str") rfl T.str PyProof.Rows.boot_str rfl) pa_nil))))) (pt_cmpR op_ne (pv 2) (pe_ix ix_tup (pv 1) pe_int (fun _ _ => rfl)) (nomark _)))
      (pss_one (ps_ret pe_bl))
      pss_nil)
    (pss_one (ps_ret (pe_callF C_law_like (hr.mono (by first | decide | omega)) rfl (pa_conK (pe_callF Cread (hr.mono (by first | decide | omega)) rfl (pa_conS (pe_ix ix_tup (pv 1) pe_int (fun _ _ => rfl)) pa_nil)) (pa_conS (pe_ix ix_tup (pv 1) pe_int (fun _ _ => rfl)) pa_nil)))))))), ?_⟩
  refine ⟨_, rfl, _, rfl, a, _, rfl, hS, fun l1 hl1 => ?_⟩
  rw [cut_map]
  refine alloc_rd (upd _ l1 _) rfl hl1 fun H1 n1 x1 => ?_
  refine ⟨_, rfl, _, rfl, _, rfl, a, _, rfl, n1.seq hS, fun l2 hl2 => ?_⟩
  rw [cut_map]
  refine alloc_rd (upd _ l2 _) rfl hl2 fun H2 n2 x2 => ?_
  refine ⟨_, rfl, a, ns, 8, 180, rfl, (n1.trans n2).seq hS, hn, by decide, by decide, fun m H3 n3 m0 m1 => ?_⟩
  have c1 : ((ns.drop (HT.sIx ns.length 0 none)).take (HT.sIx ns.length ns.length (some 24) - HT.sIx ns.length 0 none)).length ≤ 24 := by
    rw [List.length_take]
    have : HT.sIx ns.length ns.length (some 24) ≤ 24 := by
      show (if (24 : Int) < 0 then ((24 : Int) + (ns.length : Int)).toNat else min (24 : Int).toNat ns.length) ≤ 24
      rw [if_neg (by decide)]
      exact Nat.min_le_left _ _
    omega
  have c2 : ((ns.drop (HT.sIx ns.length 0 (some 24))).take (HT.sIx ns.length ns.length (some 30) - HT.sIx ns.length 0 (some 24))).length ≤ 18 := by
    rw [List.length_take]
    have h30 : HT.sIx ns.length ns.length (some 30) = min 30 ns.length := by
      show (if (30 : Int) < 0 then ((30 : Int) + (ns.length : Int)).toNat else min (30 : Int).toNat ns.length) = _
      rw [if_neg (by decide)]
      rfl
    have h24 : HT.sIx ns.length 0 (some 24) = min 24 ns.length := by
      show (if (24 : Int) < 0 then ((24 : Int) + (ns.length : Int)).toNat else min (24 : Int).toNat ns.length) = _
      rw [if_neg (by decide)]
      rfl
    rw [h30, h24]
    omega
  refine ⟨l2, _, m, rfl, SqL.of (n3 _ _ x2), c2, m0, by omega, fun p th tr H4 n4 T4 f4 => ?_⟩
  refine ⟨l1, p, _, th, tr, rfl, SqL.of (n4 _ _ (n3 _ _ (n2 _ _ x1))), c1, T4, f4, fun v' qq used twice H5 n5 st5 gr hu ht => ?_⟩
  obtain ⟨p', qv, hp, rp, rs, rfl, h1, h2, h3, h4, h5⟩ := st5
  have hbig := gr.big c1
  have hgood := good_of T4 gr.ok
  refine ⟨_, rfl, p', _, _, _, rfl, rfl, SqT.of h1, atI0, qv, qq, rfl, h2, numsQ_of T4 gr.ok, by omega, fun H6 n6 => ?_⟩
  have h6 := n6 _ _ h1
  refine ⟨_, rfl, _, _, _, _, rfl, TyOf.str _, kit_same, _, rfl, _, ⟨_, rfl, _, rfl, p', _, _, _, rfl, rfl, SqT.of h6, atI1, rfl, _, rfl, rfl, rfl⟩, ?_⟩
  refine ifF (by simp) ?_
  obtain ⟨init, last, st, t, r1, r2, r3, r4, r5⟩ := line_reads hgood
  refine ⟨_, rfl, p', _, _, _, rfl, rfl, SqT.of h6, atI1, lineOf qq, init, last, st, t, trQ qq, rfl, by omega, r1, r2, r3, r4, r5, fun v2 H7 n7 t7 => ?_⟩
  have hsz := trQ_size qq
  exact ⟨_, rfl, p', _, _, _, rfl, rfl, SqT.of (n7 _ _ h6), atI0, v2, qv, trQ qq, rfl, t7, trQ_at (h2.same (n6.trans n7)), by omega, fun H8 _ => q H8⟩
end
theorem all_mk {l : PySem.W.OpenLaw} {w : World} {K : PySem.W.Frag} {h : Heap} {mg : Str → Option Value} {fa f0 f1 f2 f3 f4 f5 f6 f7 f8 f9 f10 f11 f12 f13 f14 f15 f16 f17 f18 f19 f20 f21 f22 f23 f24 f25 f26 f27 f28 : Addr} (X : K.In h) (G : h.Ns mainGlobals mg) (hfa : mg "law" = some (.ref fa))
    {od0 an0 od1 an1 od2 an2 od3 an3 od4 an4 od5 an5 od6 an6 od7 an7 od8 an8 od9 an9 od10 an10 od11 an11 od12 an12 od13 an13 od14 an14 od15 an15 od16 an16 od17 an17 od18 an18 od19 an19 od20 an20 od21 an21 od22 an22 od23 an23 od24 an24 od25 an25 od26 an26 od27 an27 od28 an28 : Option Addr} {sl0 sl1 sl2 sl3 sl4 sl5 sl6 sl7 sl8 sl9 sl10 sl11 sl12 sl13 sl14 sl15 sl16 sl17 sl18 sl19 sl20 sl21 sl22 sl23 sl24 sl25 sl26 sl27 sl28 : Array (Option Value)} {oc0 kV0 dc0 pm0 cd0 ct0 oc1 kV1 dc1 pm1 cd1 ct1 oc2 kV2 dc2 pm2 cd2 ct2 oc3 kV3 dc3 pm3 cd3 ct3 oc4 kV4 dc4 pm4 cd4 ct4 oc5 kV5 dc5 pm5 cd5 ct5 oc6 kV6 dc6 pm6 cd6 ct6 oc7 kV7 dc7 pm7 cd7 ct7 oc8 kV8 dc8 pm8 cd8 ct8 oc9 kV9 dc9 pm9 cd9 ct9 oc10 kV10 dc10 pm10 cd10 ct10 oc11 kV11 dc11 pm11 cd11 ct11 oc12 kV12 dc12 pm12 cd12 ct12 oc13 kV13 dc13 pm13 cd13 ct13 oc14 kV14 dc14 pm14 cd14 ct14 oc15 kV15 dc15 pm15 cd15 ct15 oc16 kV16 dc16 pm16 cd16 ct16 oc17 kV17 dc17 pm17 cd17 ct17 oc18 kV18 dc18 pm18 cd18 ct18 oc19 kV19 dc19 pm19 cd19 ct19 oc20 kV20 dc20 pm20 cd20 ct20 oc21 kV21 dc21 pm21 cd21 ct21 oc22 kV22 dc22 pm22 cd22 ct22 oc23 kV23 dc23 pm23 cd23 ct23 oc24 kV24 dc24 pm24 cd24 ct24 oc25 kV25 dc25 pm25 cd25 ct25 oc26 kV26 dc26 pm26 cd26 ct26 oc27 kV27 dc27 pm27 cd27 ct27 oc28 kV28 dc28 pm28 cd28 ct28 : Value}
    (a0 : PySem.W.nsIn K mainGlobals "is_name" = some (some (.ref f0))) (l0 : K.lookup f0 = some ⟨oc0, od0, .func (PySem.W.fnOf "is_name" "is_name" (defArgs s_is_name) (defBody s_is_name) (defScope s_is_name) .none kV0 dc0 pm0 an0 cd0 ct0), sl0⟩) (c0 : PySem.W.codeIn K cd0 "is_name" = true) (k0 : PySem.W.keepIn K (.ref f0) = true)
    (a1 : PySem.W.nsIn K mainGlobals "is_number" = some (some (.ref f1))) (l1 : K.lookup f1 = some ⟨oc1, od1, .func (PySem.W.fnOf "is_number" "is_number" (defArgs s_is_number) (defBody s_is_number) (defScope s_is_number) .none kV1 dc1 pm1 an1 cd1 ct1), sl1⟩) (c1 : PySem.W.codeIn K cd1 "is_number" = true) (k1 : PySem.W.keepIn K (.ref f1) = true)
    (a2 : PySem.W.nsIn K mainGlobals "number_from" = some (some (.ref f2))) (l2 : K.lookup f2 = some ⟨oc2, od2, .func (PySem.W.fnOf "number_from" "number_from" (defArgs s_number_from) (defBody s_number_from) (defScope s_number_from) .none kV2 dc2 pm2 an2 cd2 ct2), sl2⟩) (c2 : PySem.W.codeIn K cd2 "number_from" = true) (k2 : PySem.W.keepIn K (.ref f2) = true)
    (a3 : PySem.W.nsIn K mainGlobals "form_of" = some (some (.ref f3))) (l3 : K.lookup f3 = some ⟨oc3, od3, .func (PySem.W.fnOf "form_of" "form_of" (defArgs s_form_of) (defBody s_form_of) (defScope s_form_of) .none kV3 dc3 pm3 an3 cd3 ct3), sl3⟩) (c3 : PySem.W.codeIn K cd3 "form_of" = true) (k3 : PySem.W.keepIn K (.ref f3) = true)
    (a4 : PySem.W.nsIn K mainGlobals "taken" = some (some (.ref f4))) (l4 : K.lookup f4 = some ⟨oc4, od4, .func (PySem.W.fnOf "taken" "taken" (defArgs s_taken) (defBody s_taken) (defScope s_taken) .none kV4 dc4 pm4 an4 cd4 ct4), sl4⟩) (c4 : PySem.W.codeIn K cd4 "taken" = true) (k4 : PySem.W.keepIn K (.ref f4) = true)
    (a5 : PySem.W.nsIn K mainGlobals "forms_behind" = some (some (.ref f5))) (l5 : K.lookup f5 = some ⟨oc5, od5, .func (PySem.W.fnOf "forms_behind" "forms_behind" (defArgs s_forms_behind) (defBody s_forms_behind) (defScope s_forms_behind) .none kV5 dc5 pm5 an5 cd5 ct5), sl5⟩) (c5 : PySem.W.codeIn K cd5 "forms_behind" = true) (k5 : PySem.W.keepIn K (.ref f5) = true)
    (a6 : PySem.W.nsIn K mainGlobals "made" = some (some (.ref f6))) (l6 : K.lookup f6 = some ⟨oc6, od6, .func (PySem.W.fnOf "made" "made" (defArgs s_made) (defBody s_made) (defScope s_made) .none kV6 dc6 pm6 an6 cd6 ct6), sl6⟩) (c6 : PySem.W.codeIn K cd6 "made" = true) (k6 : PySem.W.keepIn K (.ref f6) = true)
    (a7 : PySem.W.nsIn K mainGlobals "closed" = some (some (.ref f7))) (l7 : K.lookup f7 = some ⟨oc7, od7, .func (PySem.W.fnOf "closed" "closed" (defArgs s_closed) (defBody s_closed) (defScope s_closed) .none kV7 dc7 pm7 an7 cd7 ct7), sl7⟩) (c7 : PySem.W.codeIn K cd7 "closed" = true) (k7 : PySem.W.keepIn K (.ref f7) = true)
    (a8 : PySem.W.nsIn K mainGlobals "read" = some (some (.ref f8))) (l8 : K.lookup f8 = some ⟨oc8, od8, .func (PySem.W.fnOf "read" "read" (defArgs s_read) (defBody s_read) (defScope s_read) .none kV8 dc8 pm8 an8 cd8 ct8), sl8⟩) (c8 : PySem.W.codeIn K cd8 "read" = true) (k8 : PySem.W.keepIn K (.ref f8) = true)
    (a9 : PySem.W.nsIn K mainGlobals "parts_of" = some (some (.ref f9))) (l9 : K.lookup f9 = some ⟨oc9, od9, .func (PySem.W.fnOf "parts_of" "parts_of" (defArgs s_parts_of) (defBody s_parts_of) (defScope s_parts_of) .none kV9 dc9 pm9 an9 cd9 ct9), sl9⟩) (c9 : PySem.W.codeIn K cd9 "parts_of" = true) (k9 : PySem.W.keepIn K (.ref f9) = true)
    (a10 : PySem.W.nsIn K mainGlobals "pieces_of" = some (some (.ref f10))) (l10 : K.lookup f10 = some ⟨oc10, od10, .func (PySem.W.fnOf "pieces_of" "pieces_of" (defArgs s_pieces_of) (defBody s_pieces_of) (defScope s_pieces_of) .none kV10 dc10 pm10 an10 cd10 ct10), sl10⟩) (c10 : PySem.W.codeIn K cd10 "pieces_of" = true) (k10 : PySem.W.keepIn K (.ref f10) = true)
    (a11 : PySem.W.nsIn K mainGlobals "shown" = some (some (.ref f11))) (l11 : K.lookup f11 = some ⟨oc11, od11, .func (PySem.W.fnOf "shown" "shown" (defArgs s_shown) (defBody s_shown) (defScope s_shown) .none kV11 dc11 pm11 an11 cd11 ct11), sl11⟩) (c11 : PySem.W.codeIn K cd11 "shown" = true) (k11 : PySem.W.keepIn K (.ref f11) = true)
    (a12 : PySem.W.nsIn K mainGlobals "_law_wide" = some (some (.ref f12))) (l12 : K.lookup f12 = some ⟨oc12, od12, .func (PySem.W.fnOf "_law_wide" "_law_wide" (defArgs s__law_wide) (defBody s__law_wide) (defScope s__law_wide) .none kV12 dc12 pm12 an12 cd12 ct12), sl12⟩) (c12 : PySem.W.codeIn K cd12 "_law_wide" = true) (k12 : PySem.W.keepIn K (.ref f12) = true)
    (a13 : PySem.W.nsIn K mainGlobals "_law_whole" = some (some (.ref f13))) (l13 : K.lookup f13 = some ⟨oc13, od13, .func (PySem.W.fnOf "_law_whole" "_law_whole" (defArgs s__law_whole) (defBody s__law_whole) (defScope s__law_whole) .none kV13 dc13 pm13 an13 cd13 ct13), sl13⟩) (c13 : PySem.W.codeIn K cd13 "_law_whole" = true) (k13 : PySem.W.keepIn K (.ref f13) = true)
    (a14 : PySem.W.nsIn K mainGlobals "_law_stocked" = some (some (.ref f14))) (l14 : K.lookup f14 = some ⟨oc14, od14, .func (PySem.W.fnOf "_law_stocked" "_law_stocked" (defArgs s__law_stocked) (defBody s__law_stocked) (defScope s__law_stocked) .none kV14 dc14 pm14 an14 cd14 ct14), sl14⟩) (c14 : PySem.W.codeIn K cd14 "_law_stocked" = true) (k14 : PySem.W.keepIn K (.ref f14) = true)
    (a15 : PySem.W.nsIn K mainGlobals "_law_spelt" = some (some (.ref f15))) (l15 : K.lookup f15 = some ⟨oc15, od15, .func (PySem.W.fnOf "_law_spelt" "_law_spelt" (defArgs s__law_spelt) (defBody s__law_spelt) (defScope s__law_spelt) .none kV15 dc15 pm15 an15 cd15 ct15), sl15⟩) (c15 : PySem.W.codeIn K cd15 "_law_spelt" = true) (k15 : PySem.W.keepIn K (.ref f15) = true)
    (a16 : PySem.W.nsIn K mainGlobals "_law_true" = some (some (.ref f16))) (l16 : K.lookup f16 = some ⟨oc16, od16, .func (PySem.W.fnOf "_law_true" "_law_true" (defArgs s__law_true) (defBody s__law_true) (defScope s__law_true) .none kV16 dc16 pm16 an16 cd16 ct16), sl16⟩) (c16 : PySem.W.codeIn K cd16 "_law_true" = true) (k16 : PySem.W.keepIn K (.ref f16) = true)
    (a17 : PySem.W.nsIn K mainGlobals "_law_asking" = some (some (.ref f17))) (l17 : K.lookup f17 = some ⟨oc17, od17, .func (PySem.W.fnOf "_law_asking" "_law_asking" (defArgs s__law_asking) (defBody s__law_asking) (defScope s__law_asking) .none kV17 dc17 pm17 an17 cd17 ct17), sl17⟩) (c17 : PySem.W.codeIn K cd17 "_law_asking" = true) (k17 : PySem.W.keepIn K (.ref f17) = true)
    (a18 : PySem.W.nsIn K mainGlobals "_law_picked" = some (some (.ref f18))) (l18 : K.lookup f18 = some ⟨oc18, od18, .func (PySem.W.fnOf "_law_picked" "_law_picked" (defArgs s__law_picked) (defBody s__law_picked) (defScope s__law_picked) .none kV18 dc18 pm18 an18 cd18 ct18), sl18⟩) (c18 : PySem.W.codeIn K cd18 "_law_picked" = true) (k18 : PySem.W.keepIn K (.ref f18) = true)
    (a19 : PySem.W.nsIn K mainGlobals "_law_columns" = some (some (.ref f19))) (l19 : K.lookup f19 = some ⟨oc19, od19, .func (PySem.W.fnOf "_law_columns" "_law_columns" (defArgs s__law_columns) (defBody s__law_columns) (defScope s__law_columns) .none kV19 dc19 pm19 an19 cd19 ct19), sl19⟩) (c19 : PySem.W.codeIn K cd19 "_law_columns" = true) (k19 : PySem.W.keepIn K (.ref f19) = true)
    (a20 : PySem.W.nsIn K mainGlobals "_law_sorted" = some (some (.ref f20))) (l20 : K.lookup f20 = some ⟨oc20, od20, .func (PySem.W.fnOf "_law_sorted" "_law_sorted" (defArgs s__law_sorted) (defBody s__law_sorted) (defScope s__law_sorted) .none kV20 dc20 pm20 an20 cd20 ct20), sl20⟩) (c20 : PySem.W.codeIn K cd20 "_law_sorted" = true) (k20 : PySem.W.keepIn K (.ref f20) = true)
    (a21 : PySem.W.nsIn K mainGlobals "_law_headed" = some (some (.ref f21))) (l21 : K.lookup f21 = some ⟨oc21, od21, .func (PySem.W.fnOf "_law_headed" "_law_headed" (defArgs s__law_headed) (defBody s__law_headed) (defScope s__law_headed) .none kV21 dc21 pm21 an21 cd21 ct21), sl21⟩) (c21 : PySem.W.codeIn K cd21 "_law_headed" = true) (k21 : PySem.W.keepIn K (.ref f21) = true)
    (a22 : PySem.W.nsIn K mainGlobals "_law_doubled" = some (some (.ref f22))) (l22 : K.lookup f22 = some ⟨oc22, od22, .func (PySem.W.fnOf "_law_doubled" "_law_doubled" (defArgs s__law_doubled) (defBody s__law_doubled) (defScope s__law_doubled) .none kV22 dc22 pm22 an22 cd22 ct22), sl22⟩) (c22 : PySem.W.codeIn K cd22 "_law_doubled" = true) (k22 : PySem.W.keepIn K (.ref f22) = true)
    (a23 : PySem.W.nsIn K mainGlobals "_law_beside" = some (some (.ref f23))) (l23 : K.lookup f23 = some ⟨oc23, od23, .func (PySem.W.fnOf "_law_beside" "_law_beside" (defArgs s__law_beside) (defBody s__law_beside) (defScope s__law_beside) .none kV23 dc23 pm23 an23 cd23 ct23), sl23⟩) (c23 : PySem.W.codeIn K cd23 "_law_beside" = true) (k23 : PySem.W.keepIn K (.ref f23) = true)
    (a24 : PySem.W.nsIn K mainGlobals "_law_united" = some (some (.ref f24))) (l24 : K.lookup f24 = some ⟨oc24, od24, .func (PySem.W.fnOf "_law_united" "_law_united" (defArgs s__law_united) (defBody s__law_united) (defScope s__law_united) .none kV24 dc24 pm24 an24 cd24 ct24), sl24⟩) (c24 : PySem.W.codeIn K cd24 "_law_united" = true) (k24 : PySem.W.keepIn K (.ref f24) = true)
    (a25 : PySem.W.nsIn K mainGlobals "_law_counted" = some (some (.ref f25))) (l25 : K.lookup f25 = some ⟨oc25, od25, .func (PySem.W.fnOf "_law_counted" "_law_counted" (defArgs s__law_counted) (defBody s__law_counted) (defScope s__law_counted) .none kV25 dc25 pm25 an25 cd25 ct25), sl25⟩) (c25 : PySem.W.codeIn K cd25 "_law_counted" = true) (k25 : PySem.W.keepIn K (.ref f25) = true)
    (a26 : PySem.W.nsIn K mainGlobals "_law_grown" = some (some (.ref f26))) (l26 : K.lookup f26 = some ⟨oc26, od26, .func (PySem.W.fnOf "_law_grown" "_law_grown" (defArgs s__law_grown) (defBody s__law_grown) (defScope s__law_grown) .none kV26 dc26 pm26 an26 cd26 ct26), sl26⟩) (c26 : PySem.W.codeIn K cd26 "_law_grown" = true) (k26 : PySem.W.keepIn K (.ref f26) = true)
    (a27 : PySem.W.nsIn K mainGlobals "_law_like" = some (some (.ref f27))) (l27 : K.lookup f27 = some ⟨oc27, od27, .func (PySem.W.fnOf "_law_like" "_law_like" (defArgs s__law_like) (defBody s__law_like) (defScope s__law_like) .none kV27 dc27 pm27 an27 cd27 ct27), sl27⟩) (c27 : PySem.W.codeIn K cd27 "_law_like" = true) (k27 : PySem.W.keepIn K (.ref f27) = true)
    (a28 : PySem.W.nsIn K mainGlobals "law" = some (some (.ref f28))) (l28 : K.lookup f28 = some ⟨oc28, od28, .func (PySem.W.fnOf "law" "law" (defArgs s_law) (defBody s_law) (defScope s_law) .none kV28 dc28 pm28 an28 cd28 ct28), sl28⟩) (c28 : PySem.W.codeIn K cd28 "law" = true) (k28 : PySem.W.keepIn K (.ref f28) = true)
    (z0 : PySem.W.nsIn K mainGlobals "isinstance" = some none)
    (z1 : PySem.W.nsIn K mainGlobals "int" = some none)
    (z2 : PySem.W.nsIn K mainGlobals "bool" = some none)
    (z3 : PySem.W.nsIn K mainGlobals "list" = some none)
    (z4 : PySem.W.nsIn K mainGlobals "tuple" = some none)
    (z5 : PySem.W.nsIn K mainGlobals "str" = some none)
    (z6 : PySem.W.nsIn K mainGlobals "len" = some none)
    (z7 : PySem.W.nsIn K mainGlobals "range" = some none)
    (z8 : PySem.W.nsIn K mainGlobals "min" = some none)
    (z9 : PySem.W.nsIn K mainGlobals "max" = some none)
    (z10 : PySem.W.nsIn K mainGlobals "sum" = some none)
    (z11 : PySem.W.nsIn K mainGlobals "sorted" = some none)
    (z12 : PySem.W.nsIn K mainGlobals "reversed" = some none)
    (z13 : PySem.W.nsIn K mainGlobals "zip" = some none)
    {tL : Tok} (cL : PySem.W.nsIn K mainGlobals "LETTERS" = some (some (.str "abcdefghijklmnopqrstuvwxyz" tL)))
    {tF : Tok} (cF : PySem.W.nsIn K mainGlobals "FIGURES" = some (some (.str "0123456789" tF)))
    {qa : Addr} (cQ : PySem.W.nsIn K mainGlobals "QUESTIONS" = some (some (.ref qa))) (ctQ : PyProof.Rows.KTD.tabLook (PyProof.Rows.KTD.datLooks fun b => K.lookup b) (fun b => K.lookup b) qa (questions.map fun p => (p.1, PyProof.Rows.KTD.Dat.tup (p.2.map PySem.PyData.str))) = true)
    {ca : Addr} (cC : PySem.W.nsIn K mainGlobals "CONDITIONS" = some (some (.ref ca))) (ctC : PyProof.Rows.KTD.tabLook (PyProof.Rows.KTD.datLooks fun b => K.lookup b) (fun b => K.lookup b) ca (conditions.map fun p => (p.1, PyProof.Rows.KTD.Dat.tup (p.2.map PySem.PyData.str))) = true)
    : ∃ fd : FuncData, (∀ (s : Shared) (v : Value), BindsTo s fd ⟨[v], []⟩ [("_law_script", v)]) ∧ ∀ base : Heap, K.In base → base.Ns mainGlobals mg → FnOk l.prog w K mg base CX0 11 fa fd ["_law_script"] (spLaw K) := by
  have e := hfa.symm.trans (PySem.W.mg_of X G a28)
  cases e
  have T : Txt K mg := ⟨PySem.W.mg_none_of X G z0, PySem.W.mg_none_of X G z1, PySem.W.mg_none_of X G z2, PySem.W.mg_none_of X G z3, PySem.W.mg_none_of X G z4, PySem.W.mg_none_of X G z5, PySem.W.mg_none_of X G z6, PySem.W.mg_none_of X G z7, PySem.W.mg_none_of X G z8, PySem.W.mg_none_of X G z9, PySem.W.mg_none_of X G z10, PySem.W.mg_none_of X G z11, PySem.W.mg_none_of X G z12, PySem.W.mg_none_of X G z13⟩
  have F0 := fun_mk (st := s_is_name) l0 c0 k0
  have b0 := F0.binds (ps := ["text"]) fun _ _ _ _ _ _ us hl => match us, hl with | [_], _ => rfl
  have F1 := fun_mk (st := s_is_number) l1 c1 k1
  have b1 := F1.binds (ps := ["text"]) fun _ _ _ _ _ _ us hl => match us, hl with | [_], _ => rfl
  have F2 := fun_mk (st := s_number_from) l2 c2 k2
  have b2 := F2.binds (ps := ["text"]) fun _ _ _ _ _ _ us hl => match us, hl with | [_], _ => rfl
  have F3 := fun_mk (st := s_form_of) l3 c3 k3
  have b3 := F3.binds (ps := ["part"]) fun _ _ _ _ _ _ us hl => match us, hl with | [_], _ => rfl
  have F4 := fun_mk (st := s_taken) l4 c4 k4
  have b4 := F4.binds (ps := ["form", "part"]) fun _ _ _ _ _ _ us hl => match us, hl with | [_, _], _ => rfl
  have F5 := fun_mk (st := s_forms_behind) l5 c5 k5
  have b5 := F5.binds (ps := ["word", "count"]) fun _ _ _ _ _ _ us hl => match us, hl with | [_, _], _ => rfl
  have F6 := fun_mk (st := s_made) l6 c6 k6
  have b6 := F6.binds (ps := ["word", "parts"]) fun _ _ _ _ _ _ us hl => match us, hl with | [_, _], _ => rfl
  have F7 := fun_mk (st := s_closed) l7 c7 k7
  have b7 := F7.binds (ps := ["above", "piece"]) fun _ _ _ _ _ _ us hl => match us, hl with | [_, _], _ => rfl
  have F8 := fun_mk (st := s_read) l8 c8 k8
  have b8 := F8.binds (ps := ["line"]) fun _ _ _ _ _ _ us hl => match us, hl with | [_], _ => rfl
  have F9 := fun_mk (st := s_parts_of) l9 c9 k9
  have b9 := F9.binds (ps := ["part"]) fun _ _ _ _ _ _ us hl => match us, hl with | [_], _ => rfl
  have F10 := fun_mk (st := s_pieces_of) l10 c10 k10
  have b10 := F10.binds (ps := ["part"]) fun _ _ _ _ _ _ us hl => match us, hl with | [_], _ => rfl
  have F11 := fun_mk (st := s_shown) l11 c11 k11
  have b11 := F11.binds (ps := ["question"]) fun _ _ _ _ _ _ us hl => match us, hl with | [_], _ => rfl
  have F12 := fun_mk (st := s__law_wide) l12 c12 k12
  have b12 := F12.binds (ps := ["_law_script", "_law_few", "_law_bound"]) fun _ _ _ _ _ _ us hl => match us, hl with | [_, _, _], _ => rfl
  have F13 := fun_mk (st := s__law_whole) l13 c13 k13
  have b13 := F13.binds (ps := ["_law_found"]) fun _ _ _ _ _ _ us hl => match us, hl with | [_], _ => rfl
  have F14 := fun_mk (st := s__law_stocked) l14 c14 k14
  have b14 := F14.binds (ps := ["_law_cells", "_law_more"]) fun _ _ _ _ _ _ us hl => match us, hl with | [_, _], _ => rfl
  have F15 := fun_mk (st := s__law_spelt) l15 c15 k15
  have b15 := F15.binds (ps := ["_law_condition"]) fun _ _ _ _ _ _ us hl => match us, hl with | [_], _ => rfl
  have F16 := fun_mk (st := s__law_true) l16 c16 k16
  have b16 := F16.binds (ps := ["_law_condition", "_law_heads", "_law_row"]) fun _ _ _ _ _ _ us hl => match us, hl with | [_, _, _], _ => rfl
  have F17 := fun_mk (st := s__law_asking) l17 c17 k17
  have b17 := F17.binds (ps := ["_law_heads", "_law_seed"]) fun _ _ _ _ _ _ us hl => match us, hl with | [_, _], _ => rfl
  have F18 := fun_mk (st := s__law_picked) l18 c18 k18
  have b18 := F18.binds (ps := ["_law_state", "_law_seed"]) fun _ _ _ _ _ _ us hl => match us, hl with | [_, _], _ => rfl
  have F19 := fun_mk (st := s__law_columns) l19 c19 k19
  have b19 := F19.binds (ps := ["_law_state", "_law_seed"]) fun _ _ _ _ _ _ us hl => match us, hl with | [_, _], _ => rfl
  have F20 := fun_mk (st := s__law_sorted) l20 c20 k20
  have b20 := F20.binds (ps := ["_law_state", "_law_seed"]) fun _ _ _ _ _ _ us hl => match us, hl with | [_, _], _ => rfl
  have F21 := fun_mk (st := s__law_headed) l21 c21 k21
  have b21 := F21.binds (ps := ["_law_state", "_law_seed"]) fun _ _ _ _ _ _ us hl => match us, hl with | [_, _], _ => rfl
  have F22 := fun_mk (st := s__law_doubled) l22 c22 k22
  have b22 := F22.binds (ps := ["_law_state", "_law_seed"]) fun _ _ _ _ _ _ us hl => match us, hl with | [_, _], _ => rfl
  have F23 := fun_mk (st := s__law_beside) l23 c23 k23
  have b23 := F23.binds (ps := ["_law_state", "_law_table", "_law_seed"]) fun _ _ _ _ _ _ us hl => match us, hl with | [_, _, _], _ => rfl
  have F24 := fun_mk (st := s__law_united) l24 c24 k24
  have b24 := F24.binds (ps := ["_law_state", "_law_table", "_law_seed"]) fun _ _ _ _ _ _ us hl => match us, hl with | [_, _, _], _ => rfl
  have F25 := fun_mk (st := s__law_counted) l25 c25 k25
  have b25 := F25.binds (ps := ["_law_state", "_law_seed", "_law_sign"]) fun _ _ _ _ _ _ us hl => match us, hl with | [_, _, _], _ => rfl
  have F26 := fun_mk (st := s__law_grown) l26 c26 k26
  have b26 := F26.binds (ps := ["_law_cells", "_law_tables"]) fun _ _ _ _ _ _ us hl => match us, hl with | [_, _], _ => rfl
  have F27 := fun_mk (st := s__law_like) l27 c27 k27
  have b27 := F27.binds (ps := ["_law_found", "_law_due"]) fun _ _ _ _ _ _ us hl => match us, hl with | [_, _], _ => rfl
  have F28 := fun_mk (st := s_law) l28 c28 k28
  have b28 := F28.binds (ps := ["_law_script"]) fun _ _ _ _ _ _ us hl => match us, hl with | [_], _ => rfl
  have R : TxtR K mg := ⟨⟨_, PySem.W.mg_of X G cL⟩, ⟨_, PySem.W.mg_of X G cF⟩, ⟨_, PySem.W.mg_of X G cQ, ctQ⟩, ⟨_, PySem.W.mg_of X G cC, ctC⟩⟩
  refine ⟨PySem.W.fnOf "law" "law" (defArgs s_law) (defBody s_law) (defScope s_law) .none kV28 dc28 pm28 an28 cd28 ct28, fun s v => .of_eq rfl, fun base _ _ => ?_⟩
  have N_is_name : Kn l.prog w K mg base 1 "is_name" ["text"] spName := ⟨_, _, ok_is_name F0 T R, PySem.W.mg_of X G a0, k0, b0⟩
  have N_is_number : Kn l.prog w K mg base 1 "is_number" ["text"] spNumber := ⟨_, _, ok_is_number F1 T R, PySem.W.mg_of X G a1, k1, b1⟩
  have N_number_from : Kn l.prog w K mg base 1 "number_from" ["text"] spNumFrom := ⟨_, _, ok_number_from F2 T R, PySem.W.mg_of X G a2, k2, b2⟩
  have N_form_of : Kn l.prog w K mg base 1 "form_of" ["part"] (spFormOf K) := ⟨_, _, ok_form_of F3 T R, PySem.W.mg_of X G a3, k3, b3⟩
  have N_taken : Kn l.prog w K mg base 2 "taken" ["form", "part"] (spTaken K) := ⟨_, _, ok_taken F4 T R N_form_of N_is_name N_is_number N_number_from, PySem.W.mg_of X G a4, k4, b4⟩
  have N_forms_behind : Kn l.prog w K mg base 1 "forms_behind" ["word", "count"] (spForms K) := ⟨_, _, ok_forms_behind F5 T R, PySem.W.mg_of X G a5, k5, b5⟩
  have N_made : Kn l.prog w K mg base 3 "made" ["word", "parts"] (spMade K) := ⟨_, _, ok_made F6 T R N_forms_behind N_taken, PySem.W.mg_of X G a6, k6, b6⟩
  have N_closed : Kn l.prog w K mg base 4 "closed" ["above", "piece"] (spClosed K) := ⟨_, _, ok_closed F7 T N_made, PySem.W.mg_of X G a7, k7, b7⟩
  have N_read : Kn l.prog w K mg base 5 "read" ["line"] (spRead K) := ⟨_, _, ok_read F8 T N_closed N_taken, PySem.W.mg_of X G a8, k8, b8⟩
  have N_parts_of : Kn l.prog w K mg base 1 "parts_of" ["part"] (spParts K) := ⟨_, _, ok_parts_of F9 T, PySem.W.mg_of X G a9, k9, b9⟩
  have N_pieces_of : Kn l.prog w K mg base 2 "pieces_of" ["part"] (spPieces K) := ⟨_, _, ok_pieces_of F10 T N_parts_of, PySem.W.mg_of X G a10, k10, b10⟩
  have N_shown : Kn l.prog w K mg base 3 "shown" ["question"] (spShown K) := ⟨_, _, ok_shown F11 T N_pieces_of, PySem.W.mg_of X G a11, k11, b11⟩
  have N__law_wide : Kn l.prog w K mg base 1 "_law_wide" ["_law_script", "_law_few", "_law_bound"] (spWide K) := ⟨_, _, ok__law_wide F12 T, PySem.W.mg_of X G a12, k12, b12⟩
  have N__law_whole : Kn l.prog w K mg base 1 "_law_whole" ["_law_found"] spWhole := ⟨_, _, ok__law_whole F13 T, PySem.W.mg_of X G a13, k13, b13⟩
  have N__law_stocked : Kn l.prog w K mg base 1 "_law_stocked" ["_law_cells", "_law_more"] (spStocked K) := ⟨_, _, ok__law_stocked F14 T, PySem.W.mg_of X G a14, k14, b14⟩
  have N__law_spelt : Kn l.prog w K mg base 7 "_law_spelt" ["_law_condition"] (spSpelt K 7) := ⟨_, _, ok__law_spelt F15 T (fun kk spp h => ⟨_, _, h, PySem.W.mg_of X G a15, k15, b15⟩) 7, PySem.W.mg_of X G a15, k15, b15⟩
  have N__law_true : Kn l.prog w K mg base 7 "_law_true" ["_law_condition", "_law_heads", "_law_row"] (spTrue K 7) := ⟨_, _, ok__law_true F16 T (fun kk spp h => ⟨_, _, h, PySem.W.mg_of X G a16, k16, b16⟩) 7, PySem.W.mg_of X G a16, k16, b16⟩
  have N__law_asking : Kn l.prog w K mg base 1 "_law_asking" ["_law_heads", "_law_seed"] (spAsking K) := ⟨_, _, ok__law_asking F17 T, PySem.W.mg_of X G a17, k17, b17⟩
  have N__law_picked : Kn l.prog w K mg base 8 "_law_picked" ["_law_state", "_law_seed"] (spPicked K) := ⟨_, _, ok__law_picked F18 T N__law_asking N__law_true N__law_spelt, PySem.W.mg_of X G a18, k18, b18⟩
  have N__law_columns : Kn l.prog w K mg base 1 "_law_columns" ["_law_state", "_law_seed"] (spColumns K) := ⟨_, _, ok__law_columns F19 T, PySem.W.mg_of X G a19, k19, b19⟩
  have N__law_sorted : Kn l.prog w K mg base 1 "_law_sorted" ["_law_state", "_law_seed"] (spSorted K) := ⟨_, _, ok__law_sorted F20 T, PySem.W.mg_of X G a20, k20, b20⟩
  have N__law_headed : Kn l.prog w K mg base 1 "_law_headed" ["_law_state", "_law_seed"] (spHeaded K) := ⟨_, _, ok__law_headed F21 T, PySem.W.mg_of X G a21, k21, b21⟩
  have N__law_doubled : Kn l.prog w K mg base 9 "_law_doubled" ["_law_state", "_law_seed"] (spDoubled K) := ⟨_, _, ok__law_doubled F22 T N__law_picked, PySem.W.mg_of X G a22, k22, b22⟩
  have N__law_beside : Kn l.prog w K mg base 1 "_law_beside" ["_law_state", "_law_table", "_law_seed"] (spBeside K) := ⟨_, _, ok__law_beside F23 T, PySem.W.mg_of X G a23, k23, b23⟩
  have N__law_united : Kn l.prog w K mg base 2 "_law_united" ["_law_state", "_law_table", "_law_seed"] (spUnited K) := ⟨_, _, ok__law_united F24 T N__law_sorted N__law_headed, PySem.W.mg_of X G a24, k24, b24⟩
  have N__law_counted : Kn l.prog w K mg base 1 "_law_counted" ["_law_state", "_law_seed", "_law_sign"] (spCounted K) := ⟨_, _, ok__law_counted F25 T, PySem.W.mg_of X G a25, k25, b25⟩
  have N__law_grown : Kn l.prog w K mg base 10 "_law_grown" ["_law_cells", "_law_tables"] (spGrown K) := ⟨_, _, ok__law_grown F26 T N__law_picked N__law_columns N__law_united N__law_beside N__law_doubled N__law_headed N__law_counted N__law_sorted, PySem.W.mg_of X G a26, k26, b26⟩
  have N__law_like : Kn l.prog w K mg base 2 "_law_like" ["_law_found", "_law_due"] (spLike K) := ⟨_, _, ok__law_like F27 T N__law_whole, PySem.W.mg_of X G a27, k27, b27⟩
  exact ok_law F28 T N__law_wide N__law_stocked N__law_grown N_shown N_read N__law_like
theorem walk {l : PySem.W.OpenLaw} {q : Program} {loose : List Str} {XP : (Str → Option Value) → Heap → Prop} {YP : World → Heap → Prop} {d : DefRec} {K : Params → PySem.W.Frag} (hn : l.most = some 63) (hdf : d.params.defaults = [])
    (hY : ∀ (w : World) (h : Heap), YP w h → (K w.params).In h)
    (F : ∀ (w : World) (mg : Str → Option Value) (fa : Addr) (h : Heap), (K w.params).In h → h.Ns mainGlobals mg → mg d.name = some (.ref fa) →
      ∃ fd : FuncData, (∀ (s : Shared) (u : Value), BindsTo s fd ⟨[u], []⟩ [("_law_script", u)]) ∧ ∀ base : Heap, (K w.params).In base → base.Ns mainGlobals mg → FnOk l.prog w (K w.params) mg base CX0 11 fa fd ["_law_script"] (spLaw (K w.params))) :
    PySem.W.WalkO q loose XP YP l.row.toRowW d [] (fun f vs => PySem.call f vs) :=
  L2.walk_of (n := 63) (k := 11) (x := "_law_script") (CX := fun _ => CX0) (sp := fun w => spLaw (K w.params)) hn (by decide) hdf ⟨rfl, by decide, by decide⟩ hY F (fun _ _ a ns hl _ hS => ⟨a, ns, rfl, hS, hl, fun _ => rfl⟩) fun _ _ _ _ _ z => z
end Q3
def PySem.W.Fast.tw15765204668468948107 : Unit := ()
def PySem.W.Fast.tw3661350683500199238 : Unit := ()
def PySem.W.Fast.tw6461885423084014162 : Unit := ()
def PySem.W.Fast.tw258515119158888263 : Unit := ()
def PySem.W.Fast.tw2965324391097292697 : Unit := ()
def PySem.W.Fast.tw2013373078041120892 : Unit := ()
def PySem.W.Fast.tw6225506438396542838 : Unit := ()
def PySem.W.Fast.tw12114093211684901244 : Unit := ()
def PySem.W.Fast.tw2536662039526804687 : Unit := ()
def PySem.W.Fast.tw10477142504416502789 : Unit := ()
def PySem.W.Fast.tw6328758483811848287 : Unit := ()
def PySem.W.Fast.tw360533239356539075 : Unit := ()
def PySem.W.Fast.tw3049102747243225342 : Unit := ()
def PySem.W.Fast.tw18338218720001012502 : Unit := ()
def PySem.W.Fast.tw10988161958797099289 : Unit := ()
def PySem.W.Fast.tw6651917432673017509 : Unit := ()
def PySem.W.Fast.tw11965791567036062545 : Unit := ()
def PySem.W.Fast.tw18255613867314073091 : Unit := ()
def PySem.W.Fast.tw56570727117186799 : Unit := ()
def PySem.W.Fast.tw9166202379536546603 : Unit := ()
def PySem.W.Fast.tw3748852816404569259 : Unit := ()
def PySem.W.Fast.tw10089789584469461730 : Unit := ()
def PySem.W.Fast.tw3408953515915855876 : Unit := ()
open PySem PySem.W PyProof.Rows
set_option maxRecDepth 100000 in
set_option maxHeartbeats 0 in
theorem PySem.Challenge.cw_sheetask_k03_whole_written_and_read_holds : PySem.Challenge.rw_sheetask_k03_whole_written_and_read.Holds := by
  w_on; o_law; k_head; (case hw => w_witness2)
  k_fill
  refine Q3.walk (l := PySem.Challenge.rw_sheetask_k03_whole_written_and_read) rfl rfl (fun w h Y => PySem.W.kIn_of Y) ?F
  case F =>
    intro w mg fa h KX G hmg
    refine' Q3.all_mk KX G hmg ?a0 ?l0 ?c0 ?k0 ?a1 ?l1 ?c1 ?k1 ?a2 ?l2 ?c2 ?k2 ?a3 ?l3 ?c3 ?k3 ?a4 ?l4 ?c4 ?k4 ?a5 ?l5 ?c5 ?k5 ?a6 ?l6 ?c6 ?k6 ?a7 ?l7 ?c7 ?k7 ?a8 ?l8 ?c8 ?k8 ?a9 ?l9 ?c9 ?k9 ?a10 ?l10 ?c10 ?k10 ?a11 ?l11 ?c11 ?k11 ?a12 ?l12 ?c12 ?k12 ?a13 ?l13 ?c13 ?k13 ?a14 ?l14 ?c14 ?k14 ?a15 ?l15 ?c15 ?k15 ?a16 ?l16 ?c16 ?k16 ?a17 ?l17 ?c17 ?k17 ?a18 ?l18 ?c18 ?k18 ?a19 ?l19 ?c19 ?k19 ?a20 ?l20 ?c20 ?k20 ?a21 ?l21 ?c21 ?k21 ?a22 ?l22 ?c22 ?k22 ?a23 ?l23 ?c23 ?k23 ?a24 ?l24 ?c24 ?k24 ?a25 ?l25 ?c25 ?k25 ?a26 ?l26 ?c26 ?k26 ?a27 ?l27 ?c27 ?k27 ?a28 ?l28 ?c28 ?k28 ?z0 ?z1 ?z2 ?z3 ?z4 ?z5 ?z6 ?z7 ?z8 ?z9 ?z10 ?z11 ?z12 ?z13 ?cL ?cF ?cQ ?ctQ ?cC ?ctC
    (case a0 => k_is)
    (case l0 => k_is)
    (case c0 => k_is)
    (case k0 => k_is)
    (case a1 => k_is)
    (case l1 => k_is)
    (case c1 => k_is)
    (case k1 => k_is)
    (case a2 => k_is)
    (case l2 => k_is)
    (case c2 => k_is)
    (case k2 => k_is)
    (case a3 => k_is)
    (case l3 => k_is)
    (case c3 => k_is)
    (case k3 => k_is)
    (case a4 => k_is)
    (case l4 => k_is)
    (case c4 => k_is)
    (case k4 => k_is)
    (case a5 => k_is)
    (case l5 => k_is)
    (case c5 => k_is)
    (case k5 => k_is)
    (case a6 => k_is)
    (case l6 => k_is)
    (case c6 => k_is)
    (case k6 => k_is)
    (case a7 => k_is)
    (case l7 => k_is)
    (case c7 => k_is)
    (case k7 => k_is)
    (case a8 => k_is)
    (case l8 => k_is)
    (case c8 => k_is)
    (case k8 => k_is)
    (case a9 => k_is)
    (case l9 => k_is)
    (case c9 => k_is)
    (case k9 => k_is)
    (case a10 => k_is)
    (case l10 => k_is)
    (case c10 => k_is)
    (case k10 => k_is)
    (case a11 => k_is)
    (case l11 => k_is)
    (case c11 => k_is)
    (case k11 => k_is)
    (case a12 => k_is)
    (case l12 => k_is)
    (case c12 => k_is)
    (case k12 => k_is)
    (case a13 => k_is)
    (case l13 => k_is)
    (case c13 => k_is)
    (case k13 => k_is)
    (case a14 => k_is)
    (case l14 => k_is)
    (case c14 => k_is)
    (case k14 => k_is)
    (case a15 => k_is)
    (case l15 => k_is)
    (case c15 => k_is)
    (case k15 => k_is)
    (case a16 => k_is)
    (case l16 => k_is)
    (case c16 => k_is)
    (case k16 => k_is)
    (case a17 => k_is)
    (case l17 => k_is)
    (case c17 => k_is)
    (case k17 => k_is)
    (case a18 => k_is)
    (case l18 => k_is)
    (case c18 => k_is)
    (case k18 => k_is)
    (case a19 => k_is)
    (case l19 => k_is)
    (case c19 => k_is)
    (case k19 => k_is)
    (case a20 => k_is)
    (case l20 => k_is)
    (case c20 => k_is)
    (case k20 => k_is)
    (case a21 => k_is)
    (case l21 => k_is)
    (case c21 => k_is)
    (case k21 => k_is)
    (case a22 => k_is)
    (case l22 => k_is)
    (case c22 => k_is)
    (case k22 => k_is)
    (case a23 => k_is)
    (case l23 => k_is)
    (case c23 => k_is)
    (case k23 => k_is)
    (case a24 => k_is)
    (case l24 => k_is)
    (case c24 => k_is)
    (case k24 => k_is)
    (case a25 => k_is)
    (case l25 => k_is)
    (case c25 => k_is)
    (case k25 => k_is)
    (case a26 => k_is)
    (case l26 => k_is)
    (case c26 => k_is)
    (case k26 => k_is)
    (case a27 => k_is)
    (case l27 => k_is)
    (case c27 => k_is)
    (case k27 => k_is)
    (case a28 => k_is)
    (case l28 => k_is)
    (case c28 => k_is)
    (case k28 => k_is)
    (case z0 => k_is)
    (case z1 => k_is)
    (case z2 => k_is)
    (case z3 => k_is)
    (case z4 => k_is)
    (case z5 => k_is)
    (case z6 => k_is)
    (case z7 => k_is)
    (case z8 => k_is)
    (case z9 => k_is)
    (case z10 => k_is)
    (case z11 => k_is)
    (case z12 => k_is)
    (case z13 => k_is)
    (case cL => k_is)
    (case cF => k_is)
    (case cQ => k_is)
    (case ctQ => kernel_rfl)
    (case cC => k_is)
    (case ctC => kernel_rfl)
#print axioms PySem.Challenge.cw_sheetask_k03_whole_written_and_read_holds

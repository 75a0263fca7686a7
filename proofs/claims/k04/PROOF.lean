import PyProof.Rows.All
import Wide.All
import OpenK.AllK
import Wide.FinOn
import Lean
import PyProof.EqAt
import PyProof.EqKinds
import PyProof.TupleCall
import KE.KIsAll
import KE.KItem
import KE.KxBytes
import KE.KDictSum
import KE.KSortAsk
import KE.KSortTup
import KE.KDictLaws
import KE.KLam
import KE.KNestM
import KE.KRevIter
import KE.KDictList
import PyProof.ZipIter
import KE.KTryMore
import OpenK.KOwn
import PyProof.ExcClass3
import PyProof.ReprStr
import PyProof.NsDelKeeps
import PyProof.Rows.FStr
import PyProof.Rows.CatchOwn
import PyProof.ExcBaseAll.ValueError
import PyProof.ExcArgs
import PyProof.Rows.StrCase
import PySem.Challenge.RW_sheetask_k04_lines_refused
set_option Elab.async false
set_option linter.all false
set_option maxRecDepth 100000
namespace L2
open PySem PySem.Spec PyProof.Rows
abbrev Key := Sum Int Str
def zag : Key → Value → Bool
  | .inl k, v => Value.isInt k v
  | .inr x, v => Value.isStrOf x v
def zc0 (w : World) : Key → Int
  | .inl k => hashInt k
  | .inr x => hashStr w x
theorem jW : ∀ {k : Key} {v : Value}, zag k v = true → (∃ i t, k = Sum.inl i ∧ v = Value.int i t) ∨ (∃ x t, k = Sum.inr x ∧ v = Value.str x t)
  | .inl i, v, h => by
    obtain ⟨t, e⟩ := Value.isInt_shape (k := i) (v := v) h;exact .inl ⟨i, t, rfl, e⟩
  | .inr x, v, h => by
    obtain ⟨t, e⟩ := Value.isStrOf_shape (x := x) (v := v) h;exact .inr ⟨x, t, rfl, e⟩
theorem zap (a b : Int) : decide ((Sum.inl a : Key) = Sum.inl b) = (a == b) := by
  by_cases e : a = b
  · subst e; simp
  · have h : ¬ (Sum.inl a : Key) = Sum.inl b := fun q => e (Sum.inl.inj q)
    rw [decide_eq_false h];exact (beq_eq_false_iff_ne.mpr e).symm
theorem zb1 (a b : Str) : decide ((Sum.inr a : Key) = Sum.inr b) = decide (a = b) := by
  by_cases e : a = b
  · subst e; simp
  · have h : ¬ (Sum.inr a : Key) = Sum.inr b := fun q => e (Sum.inr.inj q)
    rw [decide_eq_false h, decide_eq_false e]
theorem zaG (a : Int) (b : Str) : decide ((Sum.inl a : Key) = Sum.inr b) = false := decide_eq_false (fun q => nomatch q)
theorem zaL (a : Str) (b : Int) : decide ((Sum.inr a : Key) = Sum.inl b) = false := decide_eq_false (fun q => nomatch q)
def z4C (prog : Program) (w : World) : PySem.KeyKind prog w Key where
  is := zag
  hash := zc0 w
  inj := fun v a b ha hb => by
    rcases jW ha with ⟨i, t, rfl, rfl⟩ | ⟨x, t, rfl, rfl⟩
    · rcases jW hb with ⟨j, u, rfl, e⟩ | ⟨y, u, rfl, e⟩
      · injection e with e1 _; rw [e1]
      · exact nomatch e
    · rcases jW hb with ⟨j, u, rfl, e⟩ | ⟨y, u, rfl, e⟩
      · exact nomatch e
      · injection e with e1 _; rw [e1]
  byValue := fun k v h => by
    rcases jW h with ⟨i, t, rfl, rfl⟩ | ⟨x, t, rfl, rfl⟩ <;> rfl
  pyHash := fun hv h => by
    rcases jW hv with ⟨i, t, rfl, rfl⟩ | ⟨x, t, rfl, rfl⟩
    · exact wpAny_pyHash_int h
    · exact wpAny_pyHash_str h
  eqBool := fun hu hv h => by
    rcases jW hu with ⟨i, t, rfl, rfl⟩ | ⟨x, t, rfl, rfl⟩
    · rcases jW hv with ⟨j, u, rfl, rfl⟩ | ⟨y, u, rfl, rfl⟩
      · rw [zap] at h; exact wpAny_eqBool_int h
      · rw [zaG] at h; exact SeqAt.EqAt.int_str i t y u _ _ _ _ h
    · rcases jW hv with ⟨j, u, rfl, rfl⟩ | ⟨y, u, rfl, rfl⟩
      · rw [zaL] at h; exact SeqAt.EqAt.str_int x t j u _ _ _ _ h
      · rw [zb1] at h; exact wpAny_eqBool_str h
  «strs» := fun k x t v h => by
    rcases jW h with ⟨i, u, rfl, e⟩ | ⟨y, u, rfl, e⟩
    · exact nomatch e
    · injection e with e1 _
      subst e1;cases v <;> rfl
end L2
namespace L2
open PySem PySem.Spec PyProof.Rows
inductive V where
  | non | bl (b : Bool) | int (i : Int) | str (x : Str) | byt (b : Array UInt8) | flt (b : UInt64) | ref (a : Addr) | ty (n : String)
  deriving DecidableEq
def RelV : V → Value → Prop
  | .non, u => u = Value.none
  | .bl b, u => u = Value.bool b
  | .int i, u => ∃ t, u = Value.int i t
  | .str x, u => ∃ t, u = Value.str x t
  | .byt b, u => ∃ t, u = Value.bytes b t
  | .flt b, u => ∃ t, u = Value.float b t
  | .ref a, u => u = Value.ref a
  | .ty n, u => u = Value.type n
abbrev jb : List V → List Value → Prop := Paired RelV
theorem jb.length {xs : List V} {us : List Value} (r : jb xs us) : xs.length = us.length := Paired.length r
theorem jb.get : ∀ {xs : List V} {us : List Value} {i : Nat} {x : V}, jb xs us → xs[i]? = some x → ∃ u, us[i]? = some u ∧ RelV x u
  | _, _, _, _, .nil, e => by simp at e
  | _, _, 0, _, .cons r _, e => by simp at e; subst e; exact ⟨_, rfl, r⟩
  | _, _, i + 1, x, .cons _ t, e => by
    obtain ⟨u, h1, h2⟩ := jb.get (i := i) (x := x) t (by simpa using e);exact ⟨u, by simpa using h1, h2⟩
theorem jb.set {x : V} {u : Value} (r : RelV x u) : ∀ {xs : List V} {us : List Value} (i : Nat), jb xs us → jb (xs.set i x) (us.set i u)
  | _, _, _, .nil => .nil
  | _, _, 0, .cons _ t => .cons r t
  | _, _, i + 1, .cons q t => .cons q (jb.set r i t)
theorem jb.append : ∀ {xs ys : List V} {us ws : List Value}, jb xs us → jb ys ws → jb (xs ++ ys) (us ++ ws)
  | _, _, _, _, .nil, s => s
  | _, _, _, _, .cons r t, s => .cons r (jb.append t s)
theorem jb.take : ∀ {xs : List V} {us : List Value} (n : Nat), jb xs us → jb (xs.take n) (us.take n)
  | _, _, 0, _ => .nil
  | _, _, _ + 1, .nil => .nil
  | _, _, n + 1, .cons r t => .cons r (jb.take n t)
theorem jb.drop : ∀ {xs : List V} {us : List Value} (n : Nat), jb xs us → jb (xs.drop n) (us.drop n)
  | _, _, 0, r => r
  | _, _, _ + 1, .nil => .nil
  | _, _, n + 1, .cons _ t => jb.drop n t
def zaF : Option V → Option Value → Prop
  | some v, some u => RelV v u
  | none, none => True
  | _, _ => False
def KV {κ : Type} : List (κ × V) → List (κ × Value) → Prop := Paired fun (p : κ × V) (q : κ × Value) => p.1 = q.1 ∧ RelV p.2 q.2
def kV : Key → V
  | .inl i => .int i
  | .inr x => .str x
inductive HO where
  | lst (xs : List V)
  | tup (xs : List V)
  | dK (kvs : List (Key × V)) | dT (kvs : List (List Key × V))
  | set (S : Int → Bool) (n : Nat)
  | ins (C dx : Addr) (fs : List (Str × V))
  | own (x : Addr)
  | xd (fs : List (Str × V))
  | met (f x : Addr)
  | rng (lo hi : Int)
  | frz (o : Obj) (u : HO)
  | tbl (ps : Array Value)
  | ext (φ : Heap → Prop)
abbrev Hp := Addr → Option HO
def upd (H : Hp) (a : Addr) (o : HO) : Hp := fun b => if b = a then some o else H b
theorem zU {H : Hp} {a : Addr} {o : HO} : upd H a o a = some o := by unfold upd; rw [if_pos rfl]
theorem zO {H : Hp} {a b : Addr} {o : HO} (h : b ≠ a) : upd H a o b = H b := by unfold upd; rw [if_neg h]
theorem z8i {H : Hp} {a b : Addr} {o u : HO} (h : H a = some o) (h' : H b = some u) (d : o ≠ u) : a ≠ b := by
  intro e; subst e; rw [h] at h'; exact d (Option.some.inj h')
theorem zy {H : Hp} {a b : Addr} {o : HO} (h : H a = some o) (h' : H b = none) : a ≠ b := by
  intro e; subst e; rw [h] at h'; cases h'
section
variable (P : Program) (w : World)
def yP (H : Hp) (h : Heap) (a : Addr) : HO → Prop
  | .lst xs => xs.length ≤ sizeLine ∧ ∃ (its : List Value) (n : Nat), jb xs its ∧ h.get? a = some { cls := .type "list", data := .seq its.toArray n }
  | .tup xs => xs.length ≤ sizeLine ∧ ∃ its : List Value, jb xs its ∧ IsTup h a its.toArray
  | .dK kvs => kvs.length ≤ sizeLine ∧ (a == sysModules) = false ∧ ∃ vs, KV kvs vs ∧ h.DictOf (z4C P w) a vs
  | .dT kvs => kvs.length ≤ sizeLine ∧ (a == sysModules) = false ∧ ∃ xs : List (List Key × Addr × Value),
      Paired (fun (p : List Key × V) (q : List Key × Addr × Value) => p.1 = q.1 ∧ H q.2.1 = some (.tup (p.1.map kV)) ∧ RelV p.2 q.2.2) kvs xs ∧
      ∃ o es ep, h.get? a = some o ∧ o.ExactDict ∧ o.data = .dict es ep ∧ es.toList = xs.map (entryOfKey (tupleKind (z4C P w))) ∧ (xs.map (·.1)).Nodup
  | .set S n => h.SetOf (intKind P w) a S n
  | .ins C dx fs => H dx = some (.own a) ∧ fs.length ≤ 1000 ∧ dx ≠ a ∧ h.get? a = some (PySem.W.instObj C dx) ∧
      ∃ mA, h.Ns1 dx mA ∧ (∀ f, zaF (fs.lookup f) (mA f)) ∧ PySem.Within mA (fs.map (·.1))
  | .own _ => ∃ o, h.get? a = some o
  | .xd fs => ∃ mA, h.Ns1 a mA ∧ ∀ f, zaF (fs.lookup f) (mA f)
  | .rng lo hi => ∃ t u v, h.get? a = some { cls := .type "range", data := .fields #[.int lo t, .int hi u, .int 1 v] }
  | .frz o u => h.get? a = some o ∧ yP H h a u
  | .tbl ps => h.get? a = some { cls := .none, data := .fields ps }
  | .met f x => h.get? a = some (PySem.W.methodObj (.ref f) (.ref x))
  | .ext φ => φ h ∧ (∃ o, h.get? a = some o) ∧ ∀ h1 h2 : Heap, φ h1 → (∀ o, h1.get? a = some o → h2.get? a = some o) → φ h2
def HOk (H : Hp) (h : Heap) : Prop := ∀ a o, H a = some o → yP P w H h a o
end
section
variable {P : Program} {w : World} {H H' : Hp} {h h' : Heap} {a : Addr} {o : HO}
theorem yP.lt (x : yP P w H h a o) : a < h.objs.size := by
  cases o with
  | lst xs => obtain ⟨_, _, _, _, e⟩ := x; exact Heap.lt_size e
  | tup xs => obtain ⟨_, _, _, p⟩ := x; exact p.lt
  | dK kvs => obtain ⟨_, _, _, _, o, _, _, e, _⟩ := x; exact Heap.lt_size e
  | dT kvs => obtain ⟨_, _, _, _, o, _, _, e, _⟩ := x; exact Heap.lt_size e
  | set S n => obtain ⟨o, _, _, _, e, _⟩ := x; exact Heap.lt_size e
  | ins C dx fs => obtain ⟨_, _, _, e, _⟩ := x; exact Heap.lt_size e
  | own y => obtain ⟨_, e⟩ := x; exact Heap.lt_size e
  | xd fs => obtain ⟨_, ⟨_, _, _, e, _⟩, _⟩ := x; exact Heap.lt_size e
  | rng lo hi => obtain ⟨_, _, _, e⟩ := x; exact Heap.lt_size e
  | frz ob u => obtain ⟨e, _⟩ := x; exact Heap.lt_size e
  | tbl ps => exact Heap.lt_size (show h.get? a = some _ from x)
  | met f y => exact Heap.lt_size (show h.get? a = some _ from x)
  | ext φ => obtain ⟨_, ⟨_, e⟩, _⟩ := x; exact Heap.lt_size e
theorem Paired.mapP {α β : Type} {F G : α → β → Prop} : ∀ {l₁ : List α} {l₂ : List β}, Paired F l₁ l₂ → (∀ a b, F a b → G a b) → Paired G l₁ l₂
  | _, _, .nil, _ => .nil
  | _, _, .cons r t, f => .cons (f _ _ r) (Paired.mapP t f)
theorem yP.stay (x : yP P w H h a o) (k : ∀ b u, (b = a ∨ H b = some (.own a)) → h.get? b = some u → h'.get? b = some u)
    (ho : ∀ b, H b = some (.own a) → H' b = some (.own a)) (ht : ∀ b xs, H b = some (.tup xs) → H' b = some (.tup xs)) : yP P w H' h' a o := by
  induction o with
  | lst xs => obtain ⟨z, its, n, r, e⟩ := x; exact ⟨z, its, n, r, k _ _ (.inl rfl) e⟩
  | tup xs => obtain ⟨z, its, r, ob, e, c⟩ := x; exact ⟨z, its, r, ob, k _ _ (.inl rfl) e, c⟩
  | dK kvs => obtain ⟨z, y, vs, r, ob, es, ep, e, c⟩ := x; exact ⟨z, y, vs, r, ob, es, ep, k _ _ (.inl rfl) e, c⟩
  | dT kvs =>
    obtain ⟨z, y, xs, r, ob, es, ep, e, c⟩ := x;exact ⟨z, y, xs, Paired.mapP r fun p q z => ⟨z.1, ht _ _ z.2.1, z.2.2⟩, ob, es, ep, k _ _ (.inl rfl) e, c⟩
  | set S n => obtain ⟨ob, es, ep, t, e, c⟩ := x; exact ⟨ob, es, ep, t, k _ _ (.inl rfl) e, c⟩
  | ins C dx fs =>
    obtain ⟨d, z, ne, e, mA, ⟨od, es, ep, e2, c⟩, r⟩ := x;exact ⟨ho _ d, z, ne, k _ _ (.inl rfl) e, mA, ⟨od, es, ep, k _ _ (.inr d) e2, c⟩, r⟩
  | own y => obtain ⟨ob, e⟩ := x; exact ⟨ob, k _ _ (.inl rfl) e⟩
  | xd fs => obtain ⟨mA, ⟨od, es, ep, e, c⟩, r⟩ := x; exact ⟨mA, ⟨od, es, ep, k _ _ (.inl rfl) e, c⟩, r⟩
  | rng lo hi => obtain ⟨t, u, v, e⟩ := x; exact ⟨t, u, v, k _ _ (.inl rfl) e⟩
  | frz ob u ih => obtain ⟨e, q⟩ := x; exact ⟨k _ _ (.inl rfl) e, ih q⟩
  | tbl ps =>
    have e : h.get? a = some { cls := .none, data := .fields ps } := x
    show h'.get? a = some { cls := .none, data := .fields ps }
    exact k a _ (.inl rfl) e
  | met f y =>
    have e : h.get? a = some (PySem.W.methodObj (.ref f) (.ref y)) := x
    show h'.get? a = some (PySem.W.methodObj (.ref f) (.ref y))
    exact k a _ (.inl rfl) e
  | ext φ => obtain ⟨p, ⟨o, e⟩, st⟩ := x; exact ⟨st _ _ p fun o q => k _ _ (.inl rfl) q, ⟨o, k _ _ (.inl rfl) e⟩, st⟩
theorem HOk.lt (x : HOk P w H h) (e : H a = some o) : a < h.objs.size := (x a o e).lt
theorem HOk.fresh (x : HOk P w H h) (e : h.objs.size ≤ a) : H a = none := by
  cases q : H a with
  | none => rfl
  | some u => exact absurd (Nat.lt_of_lt_of_le (x.lt q) e) (Nat.lt_irrefl _)
theorem HOk.kept (x : HOk P w H h) (k : ∀ b u, h.get? b = some u → h'.get? b = some u) : HOk P w H h' := fun a o e =>
  (x a o e).stay (fun b u _ q => k b u q) (fun _ q => q) fun _ _ q => q
theorem HOk.laid (x : HOk P w H h) (k : ∀ b u, h.get? b = some u → h'.get? b = some u) (hp : h.objs.size ≤ a) (new : yP P w (upd H a o) h' a o) : HOk P w (upd H a o) h' := fun b u e => by
  have hn := x.fresh hp;by_cases hb : b = a
  · subst hb; rw [zU] at e; cases e; exact new
  · rw [zO hb] at e;exact (x b u e).stay (fun c v _ q => k c v q) (fun c q => by rw [zO (zy q hn)]; exact q) fun c xs q => by rw [zO (zy q hn)]; exact q
end
def Rd (H : Hp) (a : Addr) (u : HO) : Prop := H a = some u ∨ ∃ o, H a = some (.frz o u)
theorem Rd.ok {P : Program} {w : World} {H : Hp} {h : Heap} {a : Addr} {u : HO} (r : Rd H a u) (x : HOk P w H h) : yP P w H h a u := by
  rcases r with r | ⟨o, r⟩
  · exact x a u r
  · obtain ⟨_, q⟩ := x a _ r;exact q
def Mut : Option HO → Prop
  | some (.lst _) => True
  | some (.dK _) => True
  | some (.dT _) => True
  | some (.set _ _) => True
  | some (.ins _ _ _) => True
  | some (.ext _) => True
  | _ => False
section
variable {P : Program} {w : World} {H : Hp} {h h' : Heap} {x e : Addr} {o' : HO}
theorem HOk.write (ok : HOk P w H h) (mu : Mut (H x)) (he : e = x ∨ H e = some (.own x)) (k : ∀ b u, b ≠ e → h.get? b = some u → h'.get? b = some u) (heo : ∃ u, h'.get? e = some u)
    (new : yP P w (upd H x o') h' x o') : HOk P w (upd H x o') h' := fun b u q => by
  have nown : ∀ c y, H c = some (.own y) → c ≠ x := fun c y r z => by subst z; rw [r] at mu; exact mu
  have ntup : ∀ c xs, H c = some (.tup xs) → c ≠ x := fun c xs r z => by subst z; rw [r] at mu; exact mu
  by_cases hb : b = x
  · subst hb; rw [zU] at q; cases q; exact new
  · rw [zO hb] at q;by_cases hbe : b = e
    · have q' : H b = some (.own x) := by
        rcases he with z | z
        · exact absurd (hbe.trans z) hb
        · rw [hbe]; exact z
      rw [q] at q'; cases q';obtain ⟨v, hv⟩ := heo;exact ⟨v, by rw [hbe]; exact hv⟩
    · refine (ok b u q).stay (fun c v hc r => k c v ?_ r) (fun c r => by rw [zO (nown c b r)]; exact r) fun c xs r => by rw [zO (ntup c xs r)]; exact r
      rcases hc with rfl | hc
      · exact hbe
      · rintro rfl;rcases he with z | z
        · exact nown c b hc z
        · rw [hc] at z; cases z; exact hb rfl
end
structure Un (fs ex : List Addr) (H H' : Hp) (h h' : Heap) : Prop where
  keep : ∀ b o, h.get? b = some o → H b = none → b ∉ fs → b ∉ ex → h'.get? b = some o
  slot : ∀ b o, h.get? b = some o → H b = none → b ∈ fs → b ∉ ex → ∃ sl, h'.get? b = some { o with slots := sl }
  free : ∀ b o, h.get? b = some o → H b = none → b ∉ ex → H' b = none
  there : ∀ b o, h.get? b = some o → b ∉ ex → ∃ o', h'.get? b = some o'
  tups : ∀ b xs, H b = some (.tup xs) → H' b = some (.tup xs)
  frzs : ∀ b o u, H b = some (.frz o u) → H' b = some (.frz o u)
  tbls : ∀ b ps, H b = some (.tbl ps) → ∃ more, H' b = some (.tbl (ps ++ more))
section
variable {fs fs' ex ex' : List Addr} {H H1 H2 : Hp} {h h1 h2 h' : Heap} {a x e : Addr} {o : HO}
theorem Un.any (u : Un fs ex H H1 h h1) {b : Addr} {ob : Obj} (q : h.get? b = some ob) (n : H b = none) (hx : b ∉ ex) : ∃ sl, h1.get? b = some { ob with slots := sl } := by
  by_cases hb : b ∈ fs
  · exact u.slot b ob q n hb hx
  · exact ⟨ob.slots, u.keep b ob q n hb hx⟩
theorem Un.kept (k : ∀ b u, h.get? b = some u → h'.get? b = some u) : Un fs ex H H h h' :=
  ⟨fun b ob q _ _ _ => k b ob q, fun b ob q _ _ _ => ⟨ob.slots, k b ob q⟩, fun _ _ _ n _ => n, fun b ob q _ => ⟨ob, k b ob q⟩, fun _ _ q => q, fun _ _ _ q => q, fun _ ps q => ⟨#[], by rw [q]; simp⟩⟩
theorem Un.refl : Un fs ex H H h h := Un.kept fun _ _ q => q
theorem Un.laid (k : ∀ b u, h.get? b = some u → h'.get? b = some u) (hp : h.objs.size ≤ a) (hn : H a = none) : Un fs ex H (upd H a o) h h' where
  keep := fun b u q _ _ _ => k b u q
  slot := fun b u q _ _ _ => ⟨u.slots, k b u q⟩
  free := fun b u q n _ => by rw [zO (Nat.ne_of_lt (Nat.lt_of_lt_of_le (Heap.lt_size q) hp))]; exact n
  there := fun b u q _ => ⟨u, k b u q⟩
  tups := fun b xs q => by rw [zO (zy q hn)]; exact q
  frzs := fun b u xs q => by rw [zO (zy q hn)]; exact q
  tbls := fun b ps q => ⟨#[], by rw [zO (zy q hn), q]; simp⟩
theorem Un.write (mu : Mut (H x)) (he : e = x ∨ H e = some (.own x)) (k : ∀ b u, b ≠ e → h.get? b = some u → h'.get? b = some u) (heo : ∃ u, h'.get? e = some u) : Un fs ex H (upd H x o) h h' := by
  have hx : ∀ b, H b = none → b ≠ x := fun b n z => by subst z; rw [n] at mu; exact mu
  have hb : ∀ b, H b = none → b ≠ e := fun b n z => by
    subst z;rcases he with r | r
    · exact hx b n r
    · rw [n] at r; cases r
  have hm : ∀ b u, H b = some u → ¬ Mut (some u) → b ≠ x := fun b u q nm z => by subst z; rw [q] at mu; exact nm mu
  refine ⟨fun b u q n _ _ => k b u (hb b n) q, fun b u q n _ _ => ⟨u.slots, k b u (hb b n) q⟩, fun b u q n _ => by rw [zO (hx b n)]; exact n, fun b u q _ => ?_,
    fun b xs q => by rw [zO (hm b _ q fun z => z)]; exact q, fun b u xs q => by rw [zO (hm b _ q fun z => z)]; exact q, fun b ps q => ⟨#[], by rw [zO (hm b _ q fun z => z), q]; simp⟩⟩
  by_cases hbe : b = e
  · subst hbe; exact heo
  · exact ⟨u, k b u hbe q⟩
end
def trk (h : Heap) (H : Hp) : List Addr := (List.range h.objs.size).filter fun a => (H a).isSome
def z4A (h : Heap) (H : Hp) : Heap := PySem.W.hideAll h (trk h H)
theorem z7U (h : Heap) (H : Hp) : (z4A h H).objs.size = h.objs.size := PySem.W.hideAll_size _ _
theorem z9a {h : Heap} {H : Hp} {b : Addr} {o : Obj} (e : h.get? b = some o) (n : H b = none) : (z4A h H).get? b = some o :=
  PySem.W.hideAll_get _ e fun hm => by
    have q : (H b).isSome = true := (List.mem_filter.mp hm).2;rw [n] at q; simp at q
theorem z9m {h : Heap} {H : Hp} {b : Addr} {o : Obj} (e : (z4A h H).get? b = some o) : h.get? b = some o ∧ H b = none := by
  have e' : h.get? b = some o := PySem.W.of_hideAll (trk h H) e;refine ⟨e', ?_⟩;cases q : H b with
  | none => rfl
  | some x =>
    have hm : b ∈ trk h H := List.mem_filter.mpr ⟨List.mem_range.mpr (Heap.lt_size e'), by simp [q]⟩;have z : (z4A h H).get? b = none := PySem.W.hideAll_none (trk h H) hm;rw [z] at e; cases e
end L2
namespace L2
open PySem PySem.Spec PyProof.Rows
structure Mod (K : PySem.W.Frag) (mg : Str → Option Value) (base : Heap) : Prop where
  kin : K.In base
  glob : base.Ns mainGlobals mg
  blt : ∃ mb, base.Ns builtinsNs mb ∧ ∀ x : Str, x ≠ "__name__" → mb x = bootBuiltins x
  nolimit : base.NoLimit
structure Cx where
  prog : Program
  w : World
  K : PySem.W.Frag
  mg : Str → Option Value
  base : Heap
  A : Around
  N : List Str
  s₀ : Shared
  H₀ : Hp
  env : Env
  outer : List Env
  stack : List Env
  ex : List Addr
  fn : Str → Bool
  calm : Bool
  pn : List (Addr × Obj)
  xe : Value → Shared → Prop
def frs (l : List Env) : List Addr := l.filterMap (·.frame)
abbrev Cx.fs (X : Cx) : List Addr := frs X.outer
def Vis (sc : Scope) (x : Str) : Prop := sc.names.lookup x = some .local ∨ sc.names.lookup x = some .cell ∨ sc.names.lookup x = some .free
def Loc (sc : Scope) (x : Str) : Prop := sc.names.lookup x = some .local ∨ sc.names.lookup x = some .cell
def Look (env : Env) (h : Heap) (m : Str → Option Value) (x : Str) (u : Value) : Prop :=
  (env.kindOf x = some .local ∧ m x = some u) ∨ ((env.kindOf x = some .cell ∨ env.kindOf x = some .free) ∧ ∃ c, env.cells.lookup x = some c ∧ h.IsCell c (some u))
structure Cx.Ok (X : Cx) : Prop where
  mod : Mod X.K X.mg X.base
  kind : X.env.scope.kind = .function
  glob : X.env.globals = mainGlobals
  blt : X.env.builtins = builtinsNs
  above : X.s₀.heap.objs.size ≤ X.env.locals
  inj : ∀ x y c, X.env.cells.lookup x = some c → X.env.cells.lookup y = some c → x = y
  has : ∀ x, (X.env.kindOf x = some .cell ∨ X.env.kindOf x = some .free) → ∃ c, X.env.cells.lookup x = some c
  cab : ∀ x c, X.fn x = true → X.env.cells.lookup x = some c → X.s₀.heap.objs.size ≤ c
  hd : X.calm = true → X.A.handled = none
  frames : X.A.frames = some X.stack
  stk : X.stack = X.outer ∨ (X.stack = X.env :: X.outer ∧ X.env.frame = some X.env.locals)
  exf : ∀ b ∈ X.ex, b ≠ X.env.locals ∧ ∀ x c, X.env.cells.lookup x = some c → c ≠ b
  bs : ∀ b o, X.base.get? b = some o → X.s₀.heap.get? b = some o ∧ X.H₀ b = none
  bsz : X.base.objs.size ≤ X.s₀.heap.objs.size
  noex : ∀ b o, X.base.get? b = some o → b ∉ X.ex
  exfs : ∀ b ∈ X.ex, b ∉ X.fs
  funs : X.s₀.heap.FunFrames X.base X.outer
  frf : ∀ b ∈ X.fs, X.H₀ b = none
structure Inv (X : Cx) (pins : List (Addr × Obj)) (σ : List (Option V)) (H : Hp) (s : Shared) : Prop where
  ok : X.Ok
  os : s.os = X.s₀.os
  bare : AllBare s.gens
  base : Un X.fs X.ex X.H₀ H X.s₀.heap s.heap
  loc : ∃ m, s.heap.Ns X.env.locals m ∧ ∀ (i : Nat) (x : Str) (v : V), X.N[i]? = some x → σ[i]? = some (some v) → Vis X.env.scope x → ∃ u, RelV v u ∧ Look X.env s.heap m x u
  cell : ∀ x c, X.env.cells.lookup x = some c → ∃ v, s.heap.IsCell c v
  free : H X.env.locals = none
  freeC : ∀ x c, X.env.cells.lookup x = some c → H c = none
  pin : ∀ p ∈ X.pn ++ pins, s.heap.get? p.1 = some p.2 ∧ H p.1 = none ∧ p.1 ≠ X.env.locals ∧ p.1 ∉ X.fs ∧ ∀ v, p.2.data ≠ .cell v
  hok : HOk X.prog X.w H s.heap
  len : σ.length = X.N.length
section
variable {X : Cx} {pins : List (Addr × Obj)} {σ : List (Option V)} {H H' : Hp} {s : Shared} {h' : Heap}
theorem Cx.Ok.nofr (ok : X.Ok) {b : Addr} {o : Obj} (e : X.base.get? b = some o) : b ∉ X.fs := fun hb => by
  have := (ok.funs.mem hb).1;rw [e] at this; cases this
theorem Inv.bs (I : Inv X pins σ H s) : ∀ b o, X.base.get? b = some o → s.heap.get? b = some o ∧ H b = none := fun b o e =>
  ⟨I.base.keep b o (I.ok.bs b o e).1 (I.ok.bs b o e).2 (I.ok.nofr e) (I.ok.noex b o e), I.base.free b o (I.ok.bs b o e).1 (I.ok.bs b o e).2 (I.ok.noex b o e)⟩
theorem Inv.bk (I : Inv X pins σ H s) : ∀ b o, X.base.get? b = some o → s.heap.get? b = some o := fun b o e => (I.bs b o e).1
theorem Inv.mod (I : Inv X pins σ H s) : Mod X.K X.mg X.base := I.ok.mod
theorem Inv.kIn (I : Inv X pins σ H s) : X.K.In s.heap := I.ok.mod.kin.keeps I.bk
theorem Inv.lt (I : Inv X pins σ H s) : X.env.locals < s.heap.objs.size := let ⟨_, hn, _⟩ := I.loc; hn.lt
theorem Inv.sz (I : Inv X pins σ H s) : X.s₀.heap.objs.size ≤ s.heap.objs.size := Nat.le_trans I.ok.above (Nat.le_of_lt I.lt)
theorem Inv.nofs (I : Inv X pins σ H s) {a : Addr} (h : s.heap.objs.size ≤ a) : a ∉ X.fs := fun hb => by
  obtain ⟨_, o, ho, _⟩ := I.ok.funs.mem hb;exact absurd (Nat.lt_of_lt_of_le (Heap.lt_size ho) (Nat.le_trans I.sz h)) (Nat.lt_irrefl _)
theorem Inv.cne (I : Inv X pins σ H s) : ∀ x c, X.env.cells.lookup x = some c → c ≠ X.env.locals := fun x c e z => by
  obtain ⟨v, o, ho, hd⟩ := I.cell x c e;obtain ⟨m, ⟨o', es, ep, ho', hd', _⟩, _⟩ := I.loc;rw [z, ho'] at ho; cases ho; rw [hd'] at hd; cases hd
theorem Inv.funs (I : Inv X pins σ H s) : s.heap.FunFrames X.base X.outer := by
  have all : ∀ (l : List Env), (∀ b ∈ frs l, b ∈ X.fs) → X.s₀.heap.FunFrames X.base l → s.heap.FunFrames X.base l := by
    intro l
    induction l with
    | nil => intro _ _; trivial
    | cons env r ih =>
      intro hs hl;obtain ⟨hk, ⟨L, o, hf, hn, ho, hd⟩, hr⟩ := hl;have hL : L ∈ X.fs := hs L (by unfold frs; rw [List.filterMap_cons, hf]; exact List.mem_cons_self);obtain ⟨sl, e⟩ := I.base.slot L o ho (I.ok.frf L hL) hL fun z => I.ok.exfs L z hL
      exact ⟨hk, ⟨L, _, hf, hn, e, hd⟩, ih (fun b hb => hs b (by unfold frs; rw [List.filterMap_cons, hf]; exact List.mem_cons_of_mem _ hb)) hr⟩
  exact all X.outer (fun _ hb => hb) I.ok.funs
theorem Inv.stack (I : Inv X pins σ H s) : s.heap.FunFrames X.base X.stack := by
  rcases I.ok.stk with e | ⟨e, hf⟩
  · rw [e]; exact I.funs
  · rw [e];obtain ⟨m, hn, _⟩ := I.loc;refine .cons (by rw [I.ok.kind]; decide) hf hn ?_ I.funs;exact Heap.get?_none_of_le (Nat.le_trans I.ok.bsz I.ok.above)
theorem Inv.stkSub (I : Inv X pins σ H s) : ∀ b ∈ frs X.stack, b ∈ X.env.locals :: X.fs := fun b hb => by
  rcases I.ok.stk with e | ⟨e, hf⟩
  · rw [e] at hb; exact List.mem_cons_of_mem _ hb
  · rw [e] at hb;unfold frs at hb;rw [List.filterMap_cons, hf] at hb;exact hb
theorem Inv.stkFree (I : Inv X pins σ H s) : ∀ b ∈ frs X.stack, H b = none := fun b hb => by
  rcases List.mem_cons.mp (I.stkSub b hb) with e | hb
  · rw [e]; exact I.free
  · obtain ⟨_, o, ho, _⟩ := I.ok.funs.mem hb;exact I.base.free b o ho (I.ok.frf b hb) fun z => I.ok.exfs b z hb
theorem Inv.step {g' : Array GenState} {t' : Nat} {d' : Drawn} {ch : List Addr} (I : Inv X pins σ H s)
    (hch : ∀ b ∈ ch, (b ∈ X.ex ∨ X.s₀.heap.objs.size ≤ b) ∧ b ≠ X.env.locals ∧ (∀ x c, X.env.cells.lookup x = some c → c ≠ b) ∧ ∀ p ∈ X.pn ++ pins, p.1 ≠ b)
    (keep : ∀ b o, b ≠ X.env.locals → b ∉ X.fs → b ∉ ch → s.heap.get? b = some o → H b = none → h'.get? b = some o)
    (slot : ∀ b o, b ≠ X.env.locals → b ∈ X.fs → b ∉ ch → s.heap.get? b = some o → H b = none → ∃ sl, h'.get? b = some { o with slots := sl }) (free : ∀ b o, b ∉ ch → s.heap.get? b = some o → H b = none → H' b = none)
    (there : ∀ b o, b ∉ ch → s.heap.get? b = some o → ∃ o', h'.get? b = some o')
    (tups : ∀ b xs, H b = some (.tup xs) → H' b = some (.tup xs)) (frzs : ∀ b o u, H b = some (.frz o u) → H' b = some (.frz o u)) (tbls : ∀ b ps, H b = some (.tbl ps) → ∃ more, H' b = some (.tbl (ps ++ more)))
    (ns : ∀ m, s.heap.Ns X.env.locals m → h'.Ns X.env.locals m) (hok : HOk X.prog X.w H' h') (hg : AllBare g') :
    Inv X pins σ H' { s with heap := h', gens := g', drawn := d', toks := t' } := by
  have neL : ∀ b o, X.s₀.heap.get? b = some o → b ≠ X.env.locals := fun b o e => Nat.ne_of_lt (Nat.lt_of_lt_of_le (Heap.lt_size e) I.ok.above)
  have neC : ∀ b o, X.s₀.heap.get? b = some o → b ∉ X.ex → b ∉ ch := fun b o e hx hb => by
    rcases (hch b hb).1 with z | z
    · exact hx z
    · exact absurd (Nat.lt_of_lt_of_le (Heap.lt_size e) z) (Nat.lt_irrefl _)
  have cellK : ∀ x c, X.env.cells.lookup x = some c → ∀ v, s.heap.IsCell c v → h'.IsCell c v := fun x c e v ⟨o, ho, hd⟩ => by
    have nch : c ∉ ch := fun z => (hch c z).2.2.1 x c e rfl
    by_cases hc : c ∈ X.fs
    · obtain ⟨sl, q⟩ := slot c o (I.cne x c e) hc nch ho (I.freeC x c e);exact ⟨_, q, hd⟩
    · exact ⟨o, keep c o (I.cne x c e) hc nch ho (I.freeC x c e), hd⟩
  refine ⟨I.ok, I.os, hg, ⟨fun b o e n hb hx => ?_, fun b o e n hb hx => ?_, fun b o e n hx => ?_, fun b o e hx => ?_, fun b xs e => tups b xs (I.base.tups b xs e), fun b o xs e => frzs b o xs (I.base.frzs b o xs e), fun b ps e => ?_⟩, ?_, fun x c e => ?_, ?_, fun x c e => ?_, fun p hp => ?_, hok, I.len⟩
  · exact keep b o (neL b o e) hb (neC b o e hx) (I.base.keep b o e n hb hx) (I.base.free b o e n hx)
  · obtain ⟨sl, e1⟩ := I.base.slot b o e n hb hx;obtain ⟨sl', e2⟩ := slot b _ (neL b o e) hb (neC b o e hx) e1 (I.base.free b o e n hx);exact ⟨sl', e2⟩
  · obtain ⟨o', e1⟩ := I.base.there b o e hx;exact free b o' (neC b o e hx) e1 (I.base.free b o e n hx)
  · obtain ⟨o', e1⟩ := I.base.there b o e hx;exact there b o' (neC b o e hx) e1
  · obtain ⟨m1, e1⟩ := I.base.tbls b ps e;obtain ⟨m2, e2⟩ := tbls b _ e1;exact ⟨m1 ++ m2, by rw [e2, Array.append_assoc]⟩
  · obtain ⟨m, hn, hl⟩ := I.loc;refine ⟨m, ns m hn, fun i x v e1 e2 e3 => ?_⟩;obtain ⟨u, r, l⟩ := hl i x v e1 e2 e3;refine ⟨u, r, ?_⟩;rcases l with l | ⟨k, c, e, z⟩
    · exact .inl l
    · exact .inr ⟨k, c, e, cellK x c e _ z⟩
  · obtain ⟨v, z⟩ := I.cell x c e;exact ⟨v, cellK x c e v z⟩
  · obtain ⟨m, ⟨o, _, _, ho, _⟩, _⟩ := I.loc;exact free _ o (fun z => (hch _ z).2.1 rfl) ho I.free
  · obtain ⟨v, o, ho, hd⟩ := I.cell x c e;exact free c o (fun z => (hch c z).2.2.1 x c e rfl) ho (I.freeC x c e)
  · obtain ⟨e, n, ne, nf, d⟩ := I.pin p hp;have nch : p.1 ∉ ch := fun z => (hch p.1 z).2.2.2 p hp rfl
    exact ⟨keep p.1 p.2 ne nf nch e n, free p.1 p.2 nch e n, ne, nf, d⟩
theorem Inv.un {t' : Nat} (I : Inv X pins σ H s) (u : Un X.fs [] H H' s.heap h') (hok : HOk X.prog X.w H' h') : Inv X pins σ H' { s with heap := h', toks := t' } := by
  obtain ⟨m, ⟨o, es, ep, ho, r⟩, _⟩ := id I.loc;obtain ⟨sl, hL⟩ := u.any ho I.free (by simp);exact I.step (g' := s.gens) (d' := s.drawn) (ch := []) (fun _ z => nomatch z) (fun b o _ hb _ e n => u.keep b o e n hb (by simp)) (fun b o _ hb _ e n => u.slot b o e n hb (by simp)) (fun b o _ e n => u.free b o e n (by simp)) (fun b o _ e => u.there b o e (by simp)) u.tups u.frzs u.tbls (fun m' hm => by
    obtain ⟨o', es', ep', ho', r'⟩ := hm;rw [ho] at ho'; cases ho';exact ⟨_, es', ep', hL, r'⟩) hok I.bare
theorem Inv.call {g' : Array GenState} {t' : Nat} {d' : Drawn} {ch : List Addr} (I : Inv X pins σ H s) (u : Un (frs X.stack) ch H H' s.heap h') (hok : HOk X.prog X.w H' h') (hg : AllBare g')
    (hch : ∀ b ∈ ch, (b ∈ X.ex ∨ X.s₀.heap.objs.size ≤ b) ∧ b ≠ X.env.locals ∧ (∀ x c, X.env.cells.lookup x = some c → c ≠ b) ∧ ∀ p ∈ X.pn ++ pins, p.1 ≠ b) :
    Inv X pins σ H' { s with heap := h', gens := g', drawn := d', toks := t' } := by
  obtain ⟨m, ⟨o, es, ep, ho, r⟩, _⟩ := id I.loc;obtain ⟨sl, hL⟩ := u.any ho I.free fun z => (hch _ z).2.1 rfl
  exact I.step (ch := ch) hch (fun b o hL hb hc e n => u.keep b o e n (fun z => (List.mem_cons.mp (I.stkSub b z)).elim hL hb) hc) (fun b o _ _ hc e n => u.any e n hc) (fun b o hc e n => u.free b o e n hc) (fun b o hc e => u.there b o e hc) u.tups u.frzs u.tbls (fun m' hm => by
    obtain ⟨o', es', ep', ho', r'⟩ := hm;rw [ho] at ho'; cases ho';exact ⟨_, es', ep', hL, r'⟩) hok hg
theorem Inv.turned {t' : Nat} {it : Addr} (I : Inv X pins σ H s) (k : ∀ b o, b ≠ it → s.heap.get? b = some o → h'.get? b = some o) (hn : H it = none) (hL : it ≠ X.env.locals)
    (h1 : it ∈ X.ex ∨ X.s₀.heap.objs.size ≤ it) (h2 : ∀ x c, X.env.cells.lookup x = some c → c ≠ it) (h3 : ∀ p ∈ X.pn ++ pins, p.1 ≠ it) : Inv X pins σ H { s with heap := h', toks := t' } := by
  have nit : ∀ b u, H b = some u → b ≠ it := fun b u e z => by rw [z, hn] at e; cases e
  refine I.step (g' := s.gens) (d' := s.drawn) (ch := [it]) (fun b hb => ?_) (fun b o _ _ hc e _ => k b o (fun z => hc (by simp [z])) e) (fun b o _ _ hc e _ => ⟨o.slots, k b o (fun z => hc (by simp [z])) e⟩) (fun _ _ _ _ n => n)
    (fun b o hc e => ⟨o, k b o (fun z => hc (by simp [z])) e⟩) (fun _ _ e => e) (fun _ _ _ e => e) (fun b ps e => ⟨#[], by rw [e]; simp⟩) (fun m hm => ?_) (fun b u e => ?_) I.bare
  · have e : b = it := by simpa using hb
    subst e;exact ⟨h1, hL, h2, h3⟩
  · obtain ⟨o, es, ep, ho, r⟩ := hm;exact ⟨o, es, ep, k _ o (Ne.symm hL) ho, r⟩
  · refine (I.hok b u e).stay (fun c v hc q => k c v ?_ q) (fun _ q => q) fun _ _ q => q
    rcases hc with z | z
    · rw [z]; exact nit b u e
    · exact nit c _ z
theorem Inv.tok (I : Inv X pins σ H s) (t : Nat) : Inv X pins σ H { s with toks := t } := I.un (h' := s.heap) (t' := t) Un.refl I.hok
theorem Inv.kept {t' : Nat} (I : Inv X pins σ H s) (k : ∀ b u, s.heap.get? b = some u → h'.get? b = some u) : Inv X pins σ H { s with heap := h', toks := t' } := I.un (Un.kept k) (I.hok.kept k)
theorem Inv.laid {a : Addr} {o : HO} {t' : Nat} (I : Inv X pins σ H s) (k : ∀ b u, s.heap.get? b = some u → h'.get? b = some u) (hp : s.heap.objs.size ≤ a) (new : yP X.prog X.w (upd H a o) h' a o) :
    Inv X pins σ (upd H a o) { s with heap := h', toks := t' } := I.un (Un.laid k hp (I.hok.fresh hp)) (I.hok.laid k hp new)
theorem Inv.write {x e : Addr} {o : HO} {t' : Nat} (I : Inv X pins σ H s) (mu : Mut (H x)) (he : e = x ∨ H e = some (.own x)) (k : ∀ b u, b ≠ e → s.heap.get? b = some u → h'.get? b = some u) (heo : ∃ u, h'.get? e = some u)
    (new : yP X.prog X.w (upd H x o) h' x o) : Inv X pins σ (upd H x o) { s with heap := h', toks := t' } := I.un (Un.write mu he k heo) (I.hok.write mu he k heo new)
theorem Inv.pins_of {pins' : List (Addr × Obj)} (I : Inv X pins σ H s) (h : ∀ p ∈ pins', s.heap.get? p.1 = some p.2 ∧ H p.1 = none ∧ p.1 ≠ X.env.locals ∧ p.1 ∉ X.fs ∧ ∀ v, p.2.data ≠ .cell v) : Inv X pins' σ H s :=
  ⟨I.ok, I.os, I.bare, I.base, I.loc, I.cell, I.free, I.freeC, fun p hp => (List.mem_append.mp hp).elim (fun z => I.pin p (List.mem_append_left _ z)) (h p), I.hok, I.len⟩
theorem z3A {N : List Str} (hN : N.Nodup) {i j : Nat} {x : Str} (a : N[i]? = some x) (b : N[j]? = some x) : i = j := by
  obtain ⟨h1, e1⟩ := List.getElem?_eq_some_iff.mp a;obtain ⟨h2, e2⟩ := List.getElem?_eq_some_iff.mp b;exact (List.getElem_inj hN).mp (e1.trans e2.symm)
theorem z2z {M : Model} {A : Around} {E : Value → Shared → Prop} {i : Nat} {x : Str} {v : V} {u : Value} {Q : Unit → Shared → Prop} (I : Inv X pins σ H s) (hN : X.N.Nodup) (hi : X.N[i]? = some x) (hx : Loc X.env.scope x) (r : RelV v u)
    (h : ∀ s', Inv X pins (σ.set i (some v)) H s' → (∃ a, Heap.SameBut a s.heap s'.heap ∧ (a = X.env.locals ∨ X.env.cells.lookup x = some a)) → Q () s') (hf : X.fn x = true ∨ X.env.scope.names.lookup x = some .local := by first | exact .inl rfl | exact .inr rfl | assumption) : wpAny M A (storeName X.env x u) Q E s := by
  obtain ⟨m, hn, hl⟩ := id I.loc;have hcls : (X.env.scope.kind == .class || (X.env.scope.kind == .module && X.env.locals != X.env.globals)) = false := by rw [I.ok.kind]; rfl
  have hiσ : i < σ.length := by rw [I.len]; exact (List.getElem?_eq_some_iff.mp hi).1
  have cne := I.cne;have tracked : ∀ {a : Addr} {h' : Heap}, (∃ o, s.heap.get? a = some o ∧ H a = none) → Heap.SameBut a s.heap h' → HOk X.prog X.w H h' := fun {a h'} ha hs b ob e => by
    obtain ⟨_, _, hfree⟩ := ha;refine (I.hok b ob e).stay (fun c w' hc q => (hs.2 c ?_).trans q) (fun _ q => q) fun _ _ q => q
    rintro rfl;rcases hc with rfl | hc
    · rw [hfree] at e; cases e
    · rw [hfree] at hc; cases hc
  rcases hx with hk | hk
  · refine wpAny_storeName_local hk hn (fun h' hn' hs => ?_) hcls;obtain ⟨oL, _, _, hoL, _⟩ := id hn;refine h _ ⟨I.ok, I.os, I.bare, ⟨fun b o e n hb hx => ?_, fun b o e n hb hx => ?_, I.base.free, fun b o e hx => ?_, I.base.tups, I.base.frzs, I.base.tbls⟩, ⟨_, hn', fun j y v' e1 e2 e3 => ?_⟩, fun y c e => ?_, I.free, I.freeC, fun p hp => ?_, tracked ⟨oL, hoL, I.free⟩ hs, by simpa using I.len⟩ ⟨_, hs, .inl rfl⟩
    · exact (hs.2 b (Nat.ne_of_lt (Nat.lt_of_lt_of_le (Heap.lt_size e) I.ok.above))).trans (I.base.keep b o e n hb hx)
    · obtain ⟨sl, e1⟩ := I.base.slot b o e n hb hx;exact ⟨sl, (hs.2 b (Nat.ne_of_lt (Nat.lt_of_lt_of_le (Heap.lt_size e) I.ok.above))).trans e1⟩
    · obtain ⟨o', e1⟩ := I.base.there b o e hx;exact ⟨o', (hs.2 b (Nat.ne_of_lt (Nat.lt_of_lt_of_le (Heap.lt_size e) I.ok.above))).trans e1⟩
    · by_cases hj : j = i
      · subst hj;rw [hi] at e1; cases e1;rw [List.getElem?_set_self hiσ] at e2;cases e2;exact ⟨u, r, .inl ⟨hk, by simp⟩⟩
      · rw [List.getElem?_set_ne (Ne.symm hj)] at e2;obtain ⟨u', r', q⟩ := hl j y v' e1 e2 e3;refine ⟨u', r', ?_⟩;rcases q with ⟨k, e⟩ | ⟨k, c, e, z⟩
        · refine .inl ⟨k, ?_⟩;have : y ≠ x := fun e => hj (z3A hN e1 (e ▸ hi))
          simp [this, e]
        · exact .inr ⟨k, c, e, z.sameBut hs (cne y c e)⟩
    · obtain ⟨w', z⟩ := I.cell y c e;exact ⟨w', z.sameBut hs (cne y c e)⟩
    · obtain ⟨e, n, ne, nf, d⟩ := I.pin p hp;exact ⟨(hs.2 p.1 ne).trans e, n, ne, nf, d⟩
  · have hfn : X.fn x = true := by
      rcases hf with z | z
      · exact z
      · rw [z] at hk; cases hk
    obtain ⟨c, hc⟩ := I.ok.has x (.inl hk);obtain ⟨w', z⟩ := I.cell x c hc;refine wpAny_storeName_cell I.ok.kind hk hc z (fun h' hc' hs => ?_);obtain ⟨oc, hoc, hocd⟩ := id z;refine h { s with heap := h' } ⟨I.ok, I.os, I.bare, ⟨fun b o e n hb hx => ?_, fun b o e n hb hx => ?_, I.base.free, fun b o e hx => ?_, I.base.tups, I.base.frzs, I.base.tbls⟩, ⟨m, hn.sameBut hs (Ne.symm (cne x c hc)), fun j y v' e1 e2 e3 => ?_⟩, fun y c' e => ?_, I.free, I.freeC, fun p hp => ?_, tracked ⟨oc, hoc, I.freeC x c hc⟩ hs, by simpa using I.len⟩ ⟨c, hs, .inr hc⟩
    · exact (hs.2 b (Nat.ne_of_lt (Nat.lt_of_lt_of_le (Heap.lt_size e) (I.ok.cab x c hfn hc)))).trans (I.base.keep b o e n hb hx)
    · obtain ⟨sl, e1⟩ := I.base.slot b o e n hb hx;exact ⟨sl, (hs.2 b (Nat.ne_of_lt (Nat.lt_of_lt_of_le (Heap.lt_size e) (I.ok.cab x c hfn hc)))).trans e1⟩
    · obtain ⟨o', e1⟩ := I.base.there b o e hx;exact ⟨o', (hs.2 b (Nat.ne_of_lt (Nat.lt_of_lt_of_le (Heap.lt_size e) (I.ok.cab x c hfn hc)))).trans e1⟩
    · by_cases hj : j = i
      · subst hj;rw [hi] at e1; cases e1;rw [List.getElem?_set_self hiσ] at e2;cases e2;exact ⟨u, r, .inr ⟨.inl hk, c, hc, hc'⟩⟩
      · rw [List.getElem?_set_ne (Ne.symm hj)] at e2;obtain ⟨u', r', q⟩ := hl j y v' e1 e2 e3;refine ⟨u', r', ?_⟩;rcases q with q | ⟨k, c', e, z'⟩
        · exact .inl q
        · refine .inr ⟨k, c', e, z'.sameBut hs ?_⟩;rintro rfl;exact hj (z3A hN e1 (I.ok.inj _ _ _ e hc ▸ hi))
    · by_cases hcc : c' = c
      · subst hcc; exact ⟨_, hc'⟩
      · obtain ⟨w2, z2⟩ := I.cell y c' e;exact ⟨w2, z2.sameBut hs hcc⟩
    · obtain ⟨e, n, ne, nf, d⟩ := I.pin p hp;refine ⟨(hs.2 p.1 ?_).trans e, n, ne, nf, d⟩;intro q;rw [q, hoc] at e;have q' : oc = p.2 := Option.some.inj e;exact d w' (by rw [← q']; exact hocd)
theorem z17 {M : Model} {A : Around} {E : Value → Shared → Prop} {i : Nat} {x : Str} {v : V} {u : Value} {Q : Unit → Shared → Prop} (I : Inv X pins σ H s) (hN : X.N.Nodup) (hi : X.N[i]? = some x) (hx : Loc X.env.scope x) (r : RelV v u)
    (h : ∀ s', Inv X pins (σ.set i (some v)) H s' → Q () s') (hf : X.fn x = true ∨ X.env.scope.names.lookup x = some .local := by first | exact .inl rfl | exact .inr rfl | assumption) : wpAny M A (storeName X.env x u) Q E s :=
  z2z I hN hi hx r (fun s' I' _ => h s' I') hf
theorem Inv.call' {s' : Shared} {ch : List Addr} (I : Inv X pins σ H s) (ho : s'.os = s.os) (u : Un (frs X.stack) ch H H' s.heap s'.heap) (hok : HOk X.prog X.w H' s'.heap) (hg : AllBare s'.gens)
    (hch : ∀ b ∈ ch, (b ∈ X.ex ∨ X.s₀.heap.objs.size ≤ b) ∧ b ≠ X.env.locals ∧ (∀ x c, X.env.cells.lookup x = some c → c ≠ b) ∧ ∀ p ∈ X.pn ++ pins, p.1 ≠ b) : Inv X pins σ H' s' := by
  obtain ⟨h', g', d', t', o'⟩ := s';have e : o' = s.os := ho;subst e;exact I.call (g' := g') (t' := t') (d' := d') u hok hg hch
end
abbrev XK := Value → Option Addr → Hp → Prop
abbrev St := List (Option V)
abbrev VK := V → Hp → Prop
abbrev TE := St → Hp → VK → Prop
abbrev TT := St → Hp → (Bool → Hp → Prop) → Prop
abbrev TA := St → Hp → (List V → Hp → Prop) → Prop
structure Ends where
  nx : St → Hp → Prop
  rt : VK
  bk : St → Hp → Prop := fun _ _ => False
  ct : St → Hp → Prop := fun _ _ => False
abbrev TS := Ends → St → Hp → Prop
def EP (X : Cx) (pins : List (Addr × Obj)) (σ : St) (Q : VK) (u : Value) (s' : Shared) : Prop := ∃ v H', Inv X pins σ H' s' ∧ RelV v u ∧ Q v H'
def TP (X : Cx) (pins : List (Addr × Obj)) (σ : St) (Q : Bool → Hp → Prop) (b : Bool) (s' : Shared) : Prop := ∃ H', Inv X pins σ H' s' ∧ Q b H'
def AP (X : Cx) (pins : List (Addr × Obj)) (σ : St) (Q : List V → Hp → Prop) (us : List Value) (s' : Shared) : Prop := ∃ vs H', Inv X pins σ H' s' ∧ jb vs us ∧ Q vs H'
def SP (X : Cx) (pins : List (Addr × Obj)) (D : Ends) (f : Flow) (s' : Shared) : Prop :=
  match f with
  | .next => ∃ σ' H', Inv X pins σ' H' s' ∧ D.nx σ' H'
  | .brk => ∃ σ' H', Inv X pins σ' H' s' ∧ D.bk σ' H'
  | .cont => ∃ σ' H', Inv X pins σ' H' s' ∧ D.ct σ' H'
  | .ret u => ∃ v σ' H', Inv X pins σ' H' s' ∧ RelV v u ∧ D.rt v H'
def PE (X : Cx) (e : Expr) (t : TE) : Prop :=
  ∀ (pins : List (Addr × Obj)) (s : Shared) (σ : St) (H : Hp) (Q : VK), Inv X pins σ H s → t σ H Q → wpAny (model X.prog X.w) X.A (eval e X.env) (EP X pins σ Q) X.xe s
def PT (X : Cx) (e : Expr) (t : TT) : Prop :=
  ∀ (pins : List (Addr × Obj)) (s : Shared) (σ : St) (H : Hp) (Q : Bool → Hp → Prop), Inv X pins σ H s → t σ H Q → wpAny (model X.prog X.w) X.A (isTrue e X.env (eval e X.env)) (TP X pins σ Q) X.xe s
def PW (X : Cx) (e : Expr) (t : TT) : Prop :=
  ∀ (whole : Sem Value) (pins : List (Addr × Obj)) (s : Shared) (σ : St) (H : Hp) (Q : Bool → Hp → Prop), Inv X pins σ H s → t σ H Q → wpAny (model X.prog X.w) X.A (isTrue e X.env whole) (TP X pins σ Q) X.xe s
theorem PW.pt {X : Cx} {e : Expr} {t : TT} (h : PW X e t) : PT X e t := h _
def PA (X : Cx) (es : List Expr) (t : TA) : Prop :=
  ∀ (pos : Pos) (pins : List (Addr × Obj)) (s : Shared) (σ : St) (H : Hp) (Q : List V → Hp → Prop), Inv X pins σ H s → t σ H Q → wpAny (model X.prog X.w) X.A (spliced (backTo pos (starEach es X.env))) (AP X pins σ Q) X.xe s
def PS (X : Cx) (st : Stmt) (t : TS) : Prop :=
  ∀ (pins : List (Addr × Obj)) (s : Shared) (σ : St) (H : Hp) (D : Ends), Inv X pins σ H s → t D σ H → wpAny (model X.prog X.w) X.A (exec st X.env) (SP X pins D) X.xe s
def PSs (X : Cx) (st : List Stmt) (t : TS) : Prop :=
  ∀ (pins : List (Addr × Obj)) (s : Shared) (σ : St) (H : Hp) (D : Ends), Inv X pins σ H s → t D σ H → wpAny (model X.prog X.w) X.A (execs st X.env) (SP X pins D) X.xe s
theorem thn {α : Type} {t : Sem α} {Q Q' : α → Shared → Prop} {M : Model} {A : Around} {E : Value → Shared → Prop} {s : Shared} (h : wpAny M A t Q E s) (hQ : ∀ a s, Q a s → Q' a s) : wpAny M A t Q' E s := wpAny_mono h hQ fun _ _ x => x
end L2
namespace L2
open PySem PySem.Spec PyProof.Rows
section
variable {X : Cx}
def z9j (i : Nat) : TE := fun σ H Q => ∃ v, σ[i]? = some (some v) ∧ Q v H
def tC (v : V) : TE := fun _ H Q => Q v H
theorem zaZ {i : Nat} {x : Str} {pos : Pos} (hN : X.N[i]? = some x) (hv : Vis X.env.scope x) (hd : (x == ("__debug__" : Str)) = false := by decide) (hcd : (x == ("__classdict__" : Str)) = false := by decide) : PE X (.Name x pos) (z9j i) := by
  intro pins s σ H Q I h;obtain ⟨v, e, h⟩ := h;obtain ⟨m, hn, hl⟩ := I.loc;obtain ⟨u, r, l⟩ := hl i x v hN e hv;have fin : EP X pins σ Q u s := ⟨v, H, I, r, h⟩;rcases l with ⟨hk, hm⟩ | ⟨hk, c, hc, hcell⟩
  · exact wpAny_Name (wpAny_loadName_local I.ok.kind hk hn hm fin) hd
  · rcases hk with hk | hk
    · exact wpAny_Name (wpAny_loadName_cell I.ok.kind hk hc hcell fin) hd
    · exact wpAny_Name (wpAny_loadName_free I.ok.kind hk hc hcell fin hcd) hd
theorem zd {i j pos} : PE X (.Constant (.int i) j pos) (tC (.int i)) := fun _ _ _ H _ I h => wpAny_Constant_int ⟨.int i, H, I.tok _, ⟨_, rfl⟩, h⟩
theorem z0V {b j pos} : PE X (.Constant (.bool b) j pos) (tC (.bl b)) := fun _ _ _ H _ I h => Constant_bool ⟨.bl b, H, I, rfl, h⟩
theorem z6d {j pos} : PE X (.Constant .none j pos) (tC .non) := fun _ _ _ H _ I h => Constant_none ⟨.non, H, I, rfl, h⟩
theorem zm {x j pos} : PE X (.Constant (.str x) j pos) (tC (.str x)) := fun _ _ _ H _ I h => Calls.Constant_str ⟨.str x, H, I.tok _, ⟨_, rfl⟩, h⟩
def Gl (X : Cx) (x : Str) : Prop := X.env.kindOf x = some .globalImplicit
theorem z26 {E : Value → Shared → Prop} {pins : List (Addr × Obj)} {s : Shared} {σ : St} {H : Hp} {x : Str} {u : Value} {pos : Pos} {Q : Value → Shared → Prop} (I : Inv X pins σ H s) (hg : Gl X x) (hm : X.mg x = some u) (h : Q u s)
    (hd : (x == ("__debug__" : Str)) = false := by decide) : wpAny (model X.prog X.w) X.A (eval (.Name x pos) X.env) Q E s :=
  Calls.Name_function_global I.ok.kind hg (Calls.loadGlobal_global (by rw [I.ok.glob]; exact I.mod.glob.keeps I.bk) hm h) hd
theorem z2p {E : Value → Shared → Prop} {pins : List (Addr × Obj)} {s : Shared} {σ : St} {H : Hp} {x : Str} {u : Value} {pos : Pos} {Q : Value → Shared → Prop} (I : Inv X pins σ H s) (hg : Gl X x) (hm : X.mg x = none) (hv : bootBuiltins x = some u) (h : Q u s)
    (hn : x ≠ "__name__" := by decide) (hd : (x == ("__debug__" : Str)) = false := by decide) : wpAny (model X.prog X.w) X.A (eval (.Name x pos) X.env) Q E s := by
  obtain ⟨mb, h1, h2⟩ := I.mod.blt;exact Calls.Name_function_global I.ok.kind hg (Calls.loadGlobal_builtin (by rw [I.ok.glob]; exact I.mod.glob.keeps I.bk) hm (by rw [I.ok.blt]; exact h1.keeps I.bk) ((h2 x hn).trans hv) h) hd
theorem kr {x : Str} {v : V} {u : Value} {pos : Pos} (hg : Gl X x) (hm : X.mg x = some u) (r : RelV v u) (hd : (x == ("__debug__" : Str)) = false := by decide) : PE X (.Name x pos) (tC v) :=
  fun _ _ _ H _ I h => z26 I hg hm ⟨v, H, I, r, h⟩ hd
theorem z0l {x : Str} {v : V} {u : Value} {pos : Pos} (hg : Gl X x) (hm : X.mg x = none) (hv : bootBuiltins x = some u) (r : RelV v u) (hn : x ≠ "__name__" := by decide) (hd : (x == ("__debug__" : Str)) = false := by decide) : PE X (.Name x pos) (tC v) :=
  fun _ _ _ H _ I h => z2p I hg hm hv ⟨v, H, I, r, h⟩ hn hd
variable {a b : Expr} {ta tb : TE} {pos : Pos}
def tB (t : TE) : TT := fun σ H Q => t σ H fun x H1 => ∃ c, x = .bl c ∧ Q c H1
theorem yU {e : Expr} {t : TE} (h : PE X e t) (he : ∀ whole, isTrue e X.env whole = (do let v ← whole; standAt e.pos; holding [v] (truthy v)) := by intro _; rfl) : PT X e (tB t) := by
  intro pins s σ H Q I hw;refine isTrue_plain (thn (h pins s σ H _ I hw) fun v s1 ⟨x, H1, I1, r1, q1⟩ => ?_) (he _);obtain ⟨d, rfl, q⟩ := q1;cases r1;exact wpAny_truthy_bool ⟨H1, I1, q⟩
variable {tA tB' : TT} {rest : List Expr}
def zc4 (t u : TT) : TT := fun σ H Q => t σ H fun c H1 => if c = true then u σ H1 Q else Q false H1
def zcf (t : TT) : TT := fun σ H Q => t σ H fun c H1 => Q (!c) H1
theorem z4Y (ha : PT X a tA) : PW X (.BoolOp .And [a] pos) tA := by
  intro wh pins s σ H Q I h;refine isTrue_and (thn (ha pins s σ H Q I h) fun c s1 e => ?_);cases c with
  | true => exact isTrue_and_nil e
  | false => exact e
theorem z3G (ha : PT X a tA) (hb : PW X (.BoolOp .And (b :: rest) pos) tB') : PW X (.BoolOp .And (a :: b :: rest) pos) (zc4 tA tB') := by
  intro wh pins s σ H Q I h;refine isTrue_and (thn (ha pins s σ H _ I h) fun c s1 ⟨H1, I1, q1⟩ => ?_);cases c with
  | true => exact hb wh pins s1 σ H1 Q I1 q1
  | false => exact ⟨H1, I1, q1⟩
theorem z2s (ha : PT X a tA) : PT X (.UnaryOp .Not a pos) (zcf tA) := by
  intro pins s σ H Q I h;exact isTrue_not (ha pins s σ H (fun c H1 => Q (!c) H1) I h)
def zbD (ta tb : TE) : TE := fun σ H Q => ta σ H fun x H1 => ∃ c, x = .bl c ∧ if c = true then tb σ H1 Q else Q (.bl false) H1
def zck (ta tb : TE) : TE := fun σ H Q => ta σ H fun x H1 => ∃ c, x = .bl c ∧ if c = true then Q (.bl true) H1 else tb σ H1 Q
def zbA (ta : TE) : TE := fun σ H Q => ta σ H fun x H1 => ∃ c, x = .bl c ∧ Q (.bl (!c)) H1
theorem z6M {op} {t : TE} (h : PE X a t) : PE X (.BoolOp op [a] pos) t := fun pins s σ H Q I hw => BoolOp_one (h pins s σ H Q I hw)
theorem z8X (ha : PE X a ta) (hb : PE X (.BoolOp .And (b :: rest) pos) tb) : PE X (.BoolOp .And (a :: b :: rest) pos) (zbD ta tb) := by
  intro pins s σ H Q I h;refine BoolOp_and (thn (ha pins s σ H _ I h) fun v s1 ⟨x, H1, I1, r1, q1⟩ => ?_);obtain ⟨c, rfl, q1⟩ := q1;cases r1;refine wpAny_truthy_bool ?_;cases c with
  | true => exact hb pins s1 σ H1 Q I1 q1
  | false => exact ⟨.bl false, H1, I1, rfl, q1⟩
theorem zbj (ha : PE X a ta) (hb : PE X (.BoolOp .Or (b :: rest) pos) tb) : PE X (.BoolOp .Or (a :: b :: rest) pos) (zck ta tb) := by
  intro pins s σ H Q I h;refine BoolOp_or (thn (ha pins s σ H _ I h) fun v s1 ⟨x, H1, I1, r1, q1⟩ => ?_);obtain ⟨c, rfl, q1⟩ := q1;cases r1;refine wpAny_truthy_bool ?_;cases c with
  | false => exact hb pins s1 σ H1 Q I1 q1
  | true => exact ⟨.bl true, H1, I1, rfl, q1⟩
theorem z6u (ha : PE X a ta) : PE X (.UnaryOp .Not a pos) (zbA ta) := by
  intro pins s σ H Q I h;refine UnaryOp_ (thn (ha pins s σ H _ I h) fun v s1 ⟨x, H1, I1, r1, q1⟩ => ?_);obtain ⟨c, rfl, q1⟩ := q1;cases r1;exact not_of (wpAny_truthy_bool ⟨.bl (!c), H1, I1, rfl, q1⟩)
def tIf (t : TT) (ta tb : TE) : TE := fun σ H Q => t σ H fun c H1 => if c = true then ta σ H1 Q else tb σ H1 Q
theorem z3i {c : Expr} (hc : PT X c tA) (ha : PE X a ta) (hb : PE X b tb) : PE X (.IfExp c a b pos) (tIf tA ta tb) := by
  intro pins s σ H Q I h;refine wpAny_IfExp (thn (hc pins s σ H _ I h) fun d s1 ⟨H1, I1, q1⟩ => ?_);cases d with
  | true => exact ha pins s1 σ H1 Q I1 q1
  | false => exact hb pins s1 σ H1 Q I1 q1
end
end L2
namespace L2
open PySem PySem.Spec PyProof.Rows
def SqL (K : PySem.W.Frag) (H : Hp) (a : Addr) (xs : List V) : Prop :=
  Rd H a (.lst xs) ∨
    ∃ (o : Obj) (its : Array Value) (n : Nat), K.lookup a = some o ∧ o.cls = .type "list" ∧ o.dict = none ∧ o.data = .seq its n ∧ its.size ≤ sizeLine ∧ jb xs its.toList
def SqT (K : PySem.W.Frag) (H : Hp) (a : Addr) (xs : List V) : Prop :=
  Rd H a (.tup xs) ∨
    ∃ (o : Obj) (its : Array Value) (n : Nat), K.lookup a = some o ∧ o.cls = .type "tuple" ∧ o.data = .seq its n ∧ its.size ≤ sizeLine ∧ jb xs its.toList
def zcb : Value → Option V
  | .none => some .non
  | .bool b => some (.bl b)
  | .int i _ => some (.int i)
  | .str x _ => some (.str x)
  | .bytes b _ => some (.byt b)
  | .float b _ => some (.flt b)
  | .ref a => some (.ref a)
  | .type n => some (.ty n)
  | _ => none
theorem RelV.abs {x : V} {u : Value} (r : RelV x u) : zcb u = some x := by
  cases x with
  | non => cases r; rfl
  | bl _ => cases r; rfl
  | int _ => obtain ⟨t, rfl⟩ := r; rfl
  | str _ => obtain ⟨t, rfl⟩ := r; rfl
  | byt _ => obtain ⟨t, rfl⟩ := r; rfl
  | flt _ => obtain ⟨t, rfl⟩ := r; rfl
  | ref _ => cases r; rfl
  | ty _ => cases r; rfl
theorem RelV.inj {x y : V} {u : Value} (r : RelV x u) (q : RelV y u) : x = y := Option.some.inj (r.abs.symm.trans q.abs)
theorem jb.inj : ∀ {xs ys : List V} {us : List Value}, jb xs us → jb ys us → xs = ys
  | _, _, _, .nil, .nil => rfl
  | _, _, _, .cons r t, .cons r' t' => by rw [r.inj r', jb.inj t t']
section
variable {X : Cx} {pins : List (Addr × Obj)} {σ : St} {H : Hp} {s : Shared} {a : Addr} {xs ys : List V}
theorem SqL.of {K : PySem.W.Frag} (h : H a = some (.lst xs)) : SqL K H a xs := .inl (.inl h)
theorem SqT.of {K : PySem.W.Frag} (h : H a = some (.tup xs)) : SqT K H a xs := .inl (.inl h)
theorem Inv.list (I : Inv X pins σ H s) (h : SqL X.K H a xs) : ∃ its : List Value, jb xs its ∧ PlainL s.heap a its.toArray ∧ xs.length ≤ sizeLine := by
  rcases h with h | ⟨o, its, n, hk, hc, hd, hs, hz, r⟩
  · obtain ⟨z, its, n, r, e⟩ := h.ok I.hok;exact ⟨its, r, ⟨_, n, e, rfl, rfl, rfl⟩, z⟩
  · refine ⟨its.toList, r, ⟨o, n, I.kIn a o hk, hc, hd, by simpa using hs⟩, ?_⟩;have e := r.length;simp only [Array.length_toList] at e;omega
theorem Inv.tuple (I : Inv X pins σ H s) (h : SqT X.K H a xs) : ∃ its : List Value, jb xs its ∧ IsTup s.heap a its.toArray ∧ xs.length ≤ sizeLine := by
  rcases h with h | ⟨o, its, n, hk, hc, hs, hz, r⟩
  · obtain ⟨z, its, r, p⟩ := h.ok I.hok;exact ⟨its, r, p, z⟩
  · refine ⟨its.toList, r, ⟨o, I.kIn a o hk, hc, n, by simpa using hs⟩, ?_⟩;have e := r.length;simp only [Array.length_toList] at e;omega
theorem Inv.list_inj (I : Inv X pins σ H s) (h : SqL X.K H a xs) (h' : SqL X.K H a ys) : xs = ys := by
  obtain ⟨its, r, ⟨o, n, e, _, _, d⟩, _⟩ := I.list h;obtain ⟨its', r', ⟨o', n', e', _, _, d'⟩, _⟩ := I.list h';rw [e] at e'; cases e';rw [d] at d'
  injection d' with d1 _
  have : its = its' := by simpa using congrArg Array.toList d1
  subst this;exact r.inj r'
theorem Inv.tuple_inj (I : Inv X pins σ H s) (h : SqT X.K H a xs) (h' : SqT X.K H a ys) : xs = ys := by
  obtain ⟨its, r, ⟨o, e, _, n, d⟩, _⟩ := I.tuple h;obtain ⟨its', r', ⟨o', e', _, n', d'⟩, _⟩ := I.tuple h';rw [e] at e'; cases e';rw [d] at d'
  injection d' with d1 _
  have : its = its' := by simpa using congrArg Array.toList d1
  subst this;exact r.inj r'
end
abbrev Cx.wish (X : Cx) (E : Value → Shared → Prop) : Cx := { X with xe := E }
abbrev Cx.nox (X : Cx) : Cx := X.wish fun _ _ => False
theorem Cx.Ok.wish {X : Cx} (ok : X.Ok) (E : Value → Shared → Prop) : (X.wish E).Ok :=
  ⟨ok.mod, ok.kind, ok.glob, ok.blt, ok.above, ok.inj, ok.has, ok.cab, ok.hd, ok.frames, ok.stk, ok.exf, ok.bs, ok.bsz, ok.noex, ok.exfs, ok.funs, ok.frf⟩
theorem Cx.Ok.unwish {X : Cx} {E : Value → Shared → Prop} (ok : (X.wish E).Ok) : X.Ok :=
  ⟨ok.mod, ok.kind, ok.glob, ok.blt, ok.above, ok.inj, ok.has, ok.cab, ok.hd, ok.frames, ok.stk, ok.exf, ok.bs, ok.bsz, ok.noex, ok.exfs, ok.funs, ok.frf⟩
section
variable {X : Cx} {pins : List (Addr × Obj)} {σ : St} {H : Hp} {s : Shared} {E : Value → Shared → Prop}
theorem Inv.wish (I : Inv X pins σ H s) (E : Value → Shared → Prop) : Inv (X.wish E) pins σ H s := ⟨I.ok.wish E, I.os, I.bare, I.base, I.loc, I.cell, I.free, I.freeC, I.pin, I.hok, I.len⟩
theorem Inv.unwish (I : Inv (X.wish E) pins σ H s) : Inv X pins σ H s := ⟨I.ok.unwish, I.os, I.bare, I.base, I.loc, I.cell, I.free, I.freeC, I.pin, I.hok, I.len⟩
theorem SP.unwish {D : Ends} {f : Flow} {s' : Shared} (h : SP (X.wish E) pins D f s') : SP X pins D f s' := by
  cases f with
  | next => obtain ⟨σ', H', I, q⟩ := h; exact ⟨σ', H', I.unwish, q⟩
  | brk => obtain ⟨σ', H', I, q⟩ := h; exact ⟨σ', H', I.unwish, q⟩
  | cont => obtain ⟨σ', H', I, q⟩ := h; exact ⟨σ', H', I.unwish, q⟩
  | ret u => obtain ⟨v, σ', H', I, r, q⟩ := h; exact ⟨v, σ', H', I.unwish, r, q⟩
theorem PSs.nox {st : List Stmt} {t : TS} (h : PSs X.nox st t) : PSs X st t := fun pins s σ H D I hw =>
  wpAny_mono (h pins s σ H D (I.wish _) hw) (fun _ _ q => q.unwish) fun _ _ z => False.elim z
end
section
variable {X : Cx} {st : Stmt} {rest : List Stmt} {t u : TS} {e : Expr} {te : TE} {pos : Pos}
def zbP : TS := fun D σ H => D.nx σ H
def zcn (t u : TS) : TS := fun D σ H => t { D with nx := u D } σ H
theorem zQ : PSs X [] zbP := fun _ _ σ H _ I h => wpAny_execs_nil ⟨σ, H, I, h⟩
theorem zj (h1 : PS X st t) (h2 : PSs X rest u) : PSs X (st :: rest) (zcn t u) := by
  intro pins s σ H D I h;refine wpAny_execs_cons (thn (h1 pins s σ H { D with nx := u D } I h) fun f s1 q => ?_);cases f with
  | next =>
    obtain ⟨σ', H', I', q⟩ := q;exact h2 pins s1 σ' H' D I' q
  | ret v => exact q
  | brk => exact q
  | cont => exact q
theorem zq (h1 : PS X st t) : PSs X [st] t := by
  intro pins s σ H D I h;refine wpAny_execs_cons (thn (h1 pins s σ H D I h) fun f s1 q => ?_);cases f with
  | next => exact wpAny_execs_nil q
  | ret v => exact q
  | brk => exact q
  | cont => exact q
theorem Inv.quiet {pins : List (Addr × Obj)} {σ : St} {H : Hp} {s : Shared} (I : Inv X pins σ H s) : interactive X.env = false := by simp [interactive, I.ok.kind]
def zbn (te : TE) : TS := fun D σ H => te σ H fun _ H1 => D.nx σ H1
theorem kW (he : PE X e te) (hs : swapsWith e none pos.line X.env = pure false := by rfl) : PS X (.Expr e pos) (zbn te) := by
  intro pins s σ H D I h;exact wpAny_Expr_any (thn (he pins s σ H _ I h) fun v s1 ⟨x, H1, I1, r1, q1⟩ => ⟨σ, H1, I1, q1⟩) I.quiet hs
def zbN (te : TE) : TS := fun D σ H => te σ H D.rt
theorem zR (he : PE X e te) : PS X (.Return (some e) pos) (zbN te) := by
  intro pins s σ H D I h;exact wpAny_Return_some (thn (he pins s σ H _ I h) fun v s1 ⟨x, H1, I1, r1, q1⟩ => ⟨x, σ, H1, I1, r1, q1⟩)
def zbU (c : TT) (t u : TS) : TS := fun D σ H => c σ H fun b H1 => if b = true then t D σ H1 else u D σ H1
theorem jc {c : Expr} {a b : List Stmt} {tc : TT} (hc : PT X c tc) (ha : PSs X a t) (hb : PSs X b u) : PS X (.If c a b pos) (zbU tc t u) := by
  intro pins s σ H D I h;refine wpAny_If (thn (hc pins s σ H _ I h) fun d s1 ⟨H1, I1, q1⟩ => ?_);cases d with
  | true => exact ha pins s1 σ H1 D I1 q1
  | false => exact hb pins s1 σ H1 D I1 q1
end
abbrev TG := V → St → Hp → (St → Hp → Prop) → Prop
abbrev TGs := List V → St → Hp → (St → Hp → Prop) → Prop
def PG (X : Cx) (target : Expr) (t : TG) : Prop :=
  ∀ (pins : List (Addr × Obj)) (s : Shared) (σ : St) (H : Hp) (v : V) (u : Value) (Q : St → Hp → Prop), Inv X pins σ H s → RelV v u → t v σ H Q →
    wpAny (model X.prog X.w) X.A (assign target X.env u) (fun _ s' => ∃ σ' H', Inv X pins σ' H' s' ∧ Q σ' H') X.xe s
def PGs (X : Cx) (ts : List Expr) (t : TGs) : Prop :=
  ∀ (pins : List (Addr × Obj)) (s : Shared) (σ : St) (H : Hp) (vs : List V) (us : List Value) (Q : St → Hp → Prop), Inv X pins σ H s → jb vs us → t vs σ H Q →
    wpAny (model X.prog X.w) X.A (assignInOrder ((assignEach ts X.env).map (·.2)) us) (fun _ s' => ∃ σ' H', Inv X pins σ' H' s' ∧ Q σ' H') X.xe s
abbrev zaQ := V → V → V → Hp → (Hp → Prop) → Prop
def zbB (X : Cx) (t : zaQ) : Prop :=
  ∀ (pins : List (Addr × Obj)) (s : Shared) (σ : St) (H : Hp) (o i v : V) (ov iv u : Value) (Q : Hp → Prop), Inv X pins σ H s → RelV o ov → RelV i iv → RelV v u → t o i v H Q →
    wpAny (model X.prog X.w) X.A (setItem ov iv u) (fun _ s' => ∃ H', Inv X pins σ H' s' ∧ Q H') X.xe s
section
variable {X : Cx} {pos : Pos}
def z4j (i : Nat) : TG := fun v σ H Q => Q (σ.set i (some v)) H
theorem yQ {i : Nat} {x : Str} (hN : X.N.Nodup) (hi : X.N[i]? = some x) (hx : Loc X.env.scope x) (hf : X.fn x = true ∨ X.env.scope.names.lookup x = some .local := by first | exact .inl rfl | exact .inr rfl | assumption) : PG X (.Name x pos) (z4j i) := by
  intro pins s σ H v u Q I r h;exact wpAny_assign_Name (z17 I hN hi hx r (fun s' I' => ⟨_, H, I', h⟩) hf)
def zaU : TGs := fun vs σ H Q => vs = [] ∧ Q σ H
def z5a (t : TG) (u : TGs) : TGs := fun vs σ H Q => ∃ v r, vs = v :: r ∧ t v σ H fun σ' H' => u r σ' H' Q
theorem z9x : PGs X [] zaU := by
  intro pins s σ H vs us Q I r h;obtain ⟨e, h⟩ := h;subst e;cases r;exact assignInOrder_nil ⟨σ, H, I, h⟩
theorem z5J {e : Expr} {es : List Expr} {t : TG} {u : TGs} (h1 : PG X e t) (h2 : PGs X es u)
    (hs : (assignEach (e :: es) X.env).map (·.2) = assign e X.env :: (assignEach es X.env).map (·.2) := by rfl) : PGs X (e :: es) (z5a t u) := by
  intro pins s σ H vs us Q I r h;obtain ⟨v, vr, e1, h⟩ := h;subst e1;cases r with
  | cons r rr =>
    rw [hs];refine assignInOrder_cons (thn (h1 pins s σ H _ _ _ I r h) fun _ s1 ⟨σ1, H1, I1, q1⟩ => ?_);exact h2 pins s1 σ1 H1 _ _ Q I1 rr q1
def zb6 (K : PySem.W.Frag) (n : Nat) (t : TGs) : TG := fun v σ H Q => ∃ a xs, v = .ref a ∧ SqT K H a xs ∧ xs.length = n ∧ t xs σ H Q
theorem zan {es : List Expr} {k : Nat} {t : TGs} {n : Nat} (hc : X.calm = true) (h : PGs X es t)
    (hn : (assignEach es X.env).length = n := by rfl) (hst : (assignEach es X.env).findIdx? (·.1) = none := by rfl) : PG X (.Tuple es k pos) (zb6 X.K n t) := by
  intro pins s σ H v u Q I r hw;obtain ⟨a, xs, e1, hq, hl, hw⟩ := hw;subst e1;cases r;obtain ⟨its, rv, ht, hz⟩ := I.tuple hq;refine assign_Tuple_tuple (I.ok.hd hc) ht (by simp [hn, ← hl, rv.length]) hst fun h' hx => ?_
  have I1 : Inv X pins σ H { s with heap := h' } := I.kept (t' := s.toks) fun b o e => hx b o (Nat.ne_of_lt (Heap.lt_size e)) e
  exact h pins _ σ H xs _ Q I1 (by simpa using rv) hw
def zc9 (to ti : TE) (t : zaQ) : TG := fun v σ H Q => to σ H fun o H1 => ti σ H1 fun i H2 => t o i v H2 fun H3 => Q σ H3
theorem zb0 {o i : Expr} {to ti : TE} {t : zaQ} (ho : PE X o to) (hi : PE X i ti) (hs : zbB X t)
    (ha : ∀ v, assign (.Subscript o i pos) X.env v = (do
      let ov ← holding [v] (eval o X.env)
      let iv ← holding [v, ov] (eval i X.env)
      standAt pos
      holding [v, ov, iv] (setItem ov iv v)
      release [v, ov, iv] []) := by intro _; rfl) : PG X (.Subscript o i pos) (zc9 to ti t) := by
  intro pins s σ H v u Q I r h;rw [ha];refine wpAny_bind (wpAny_holding (thn (ho pins s σ H _ I h) fun ov s1 ⟨x, H1, I1, r1, q1⟩ => ?_));refine wpAny_bind (wpAny_holding (thn (hi pins s1 σ H1 _ I1 q1) fun iv s2 ⟨y, H2, I2, r2, q2⟩ => ?_));refine wpAny_bind (wpAny_standAt (wpAny_bind (wpAny_holding (thn (hs pins s2 σ H2 x y v ov iv u _ I2 r1 r2 r q2) fun _ s3 ⟨H3, I3, q3⟩ => ?_))));exact wpAny_release ⟨σ, H3, I3, q3⟩
def zbh (te : TE) (g : TG) : TS := fun D σ H => te σ H fun x H1 => g x σ H1 D.nx
theorem zaP {tg e : Expr} {te : TE} {g : TG} (he : PE X e te) (hg : PG X tg g) (hs : swapsWithSole [tg] e pos.line X.env = pure false := by rfl) (hw : swappedStores [tg] e X.env = pure none := by rfl)
    (h1 : (assignEach [tg] X.env).map (·.2) = [assign tg X.env] := by rfl) : PS X (.Assign [tg] e pos) (zbh te g) := by
  intro pins s σ H D I h;refine wpAny_Assign_stores (thn (he pins s σ H _ I h) fun v s1 ⟨x, H1, I1, r1, q1⟩ => ?_) hs hw;rw [h1];exact thn (hg pins s1 σ H1 x v _ I1 r1 q1) fun _ s2 q => q
theorem zu {i : Nat} {x : Str} {e : Expr} {te : TE} {pos' : Pos} (hN : X.N.Nodup) (hi : X.N[i]? = some x) (hx : Loc X.env.scope x) (he : PE X e te) (hs : swapsWith e (some (.Name x pos')) pos.line X.env = pure false := by rfl) (hf : X.fn x = true ∨ X.env.scope.names.lookup x = some .local := by first | exact .inl rfl | exact .inr rfl | assumption) :
    PS X (.Assign [.Name x pos'] e pos) (zbh te (z4j i)) := by
  intro pins s σ H D I h;refine wpAny_Assign_Name (thn (he pins s σ H _ I h) fun v s1 ⟨y, H1, I1, r1, q1⟩ => ?_) hs;exact z17 I1 hN hi hx r1 (fun s2 I2 => ⟨_, H1, I2, q1⟩) hf
end
section
variable {X : Cx} {pos : Pos}
def z8R (c : TT) (tb : TS) : TS := fun D σ H => ∃ W : Nat → St → Hp → Prop, (∃ m, W m σ H) ∧ ∀ m σ H, W m σ H →
  c σ H fun b H1 => if b = true then ∃ N : St → Hp → Prop, (∀ σ' H', N σ' H' → ∃ m', m' < m ∧ W m' σ' H') ∧ tb { D with nx := N, ct := N, bk := D.nx } σ H1 else D.nx σ H1
theorem z5L {c : Expr} {body : List Stmt} {tc : TT} {tb : TS} (hp : PassesOwn (model X.prog X.w) X.A X.env X.xe) (hc : PT X c tc) (hb : PSs X body tb) : PS X (.While c body [] pos) (z8R tc tb) := by
  intro pins s σ H D I h;obtain ⟨W, ⟨m0, w0⟩, turn⟩ := h;refine wpAny_While (codeAny_whileLoop (fun n s' => ∃ σ' H', Inv X pins σ' H' s' ∧ W n σ' H') ?_ m0 ⟨σ, H, I, w0⟩);rintro n s1 ⟨σ1, H1, I1, w1⟩;refine wpAny_passesOwn hp (thn (hc pins s1 σ1 H1 _ I1 (turn n σ1 H1 w1)) fun b s2 ⟨H2, I2, q2⟩ => ?_);cases b with
  | true =>
    obtain ⟨N, hN, q2⟩ := q2;rw [if_pos rfl];refine wpAny_passesOwn hp (thn (hb pins s2 σ1 H2 _ I2 q2) fun f s3 q3 => ?_);cases f with
    | next =>
      obtain ⟨σ3, H3, I3, n3⟩ := q3;obtain ⟨m', hm, w3⟩ := hN σ3 H3 n3;exact ⟨m', hm, σ3, H3, I3, w3⟩
    | cont =>
      obtain ⟨σ3, H3, I3, n3⟩ := q3;obtain ⟨m', hm, w3⟩ := hN σ3 H3 n3;exact ⟨m', hm, σ3, H3, I3, w3⟩
    | brk => exact q3
    | ret v => exact q3
  | false =>
    rw [if_neg Bool.false_ne_true];exact wpAny_execs_nil ⟨σ1, H2, I2, q2⟩
end
structure It where
  go : Nat → Hp → Prop
  yld : Nat → Hp → V → Hp → Prop
  stop : Nat → Hp → Prop
def z19 (X : Cx) (pins : List (Addr × Obj)) (H : Hp) (b : Addr) : Prop :=
  H b = none ∧ b ≠ X.env.locals ∧ b ∉ X.fs ∧ (b ∈ X.ex ∨ X.s₀.heap.objs.size ≤ b) ∧ (∀ x c, X.env.cells.lookup x = some c → c ≠ b) ∧ ∀ p ∈ X.pn ++ pins, p.1 ≠ b
theorem Inv.fpOk {X : Cx} {pins : List (Addr × Obj)} {σ : St} {H H' : Hp} {s : Shared} {b : Addr} (I : Inv X pins σ H s) (hb : s.heap.objs.size ≤ b) (hn : H' b = none) : z19 X pins H' b := by
  refine ⟨hn, Nat.ne_of_gt (Nat.lt_of_lt_of_le I.lt hb), I.nofs hb, .inr (Nat.le_trans I.sz hb), fun x c e z => ?_, fun p hp z => ?_⟩
  · obtain ⟨v, q⟩ := I.cell x c e;exact absurd (Nat.lt_of_lt_of_le q.lt (by rw [z]; exact hb)) (Nat.lt_irrefl _)
  · exact absurd (Nat.lt_of_lt_of_le (Heap.lt_size (I.pin p hp).1) (by rw [z]; exact hb)) (Nat.lt_irrefl _)
structure Turn (P : Program) (w : World) (K : PySem.W.Frag) (tg : Expr) (J : It) (fp : List Addr) (it : Addr) (tn : Nat → Heap → Prop) : Prop where
  mem : it ∈ fp
  obj : ∀ i h, tn i h → ∀ b ∈ fp, ∃ o, h.get? b = some o ∧ ∀ v, o.data ≠ .cell v
  keep : ∀ i h h', tn i h → (∀ b ∈ fp, ∀ o, h.get? b = some o → h'.get? b = some o) → tn i h'
  item : ∀ (X : Cx), X.prog = P → X.w = w → X.K = K → X.calm = true → ∀ (i : Nat) (pins : List (Addr × Obj)) (s : Shared) (σ : St) (H : Hp) (E : Value → Shared → Prop), Inv X pins σ H s → (∀ b ∈ fp, z19 X pins H b) → tn i s.heap → J.go i H →
    wpAny (model P w) X.A (pyNext (.ref it)) (fun r s1 => ∃ u, r = some u ∧
      wpAny (model P w) X.A (letOwnedTupleGo tg (.ref it) u) (fun _ s2 => ∃ x H', Inv X pins σ H' s2 ∧ RelV x u ∧ J.yld i H x H' ∧ tn (i + 1) s2.heap ∧ ∀ b ∈ fp, H' b = none) E s1) E s
  done : ∀ (X : Cx), X.prog = P → X.w = w → X.K = K → X.calm = true → ∀ (i : Nat) (pins : List (Addr × Obj)) (s : Shared) (σ : St) (H : Hp) (E : Value → Shared → Prop), Inv X pins σ H s → (∀ b ∈ fp, z19 X pins H b) → tn i s.heap → J.stop i H →
    wpAny (model P w) X.A (pyNext (.ref it)) (fun r s1 => r = none ∧ Inv X pins σ H s1) E s
  self : ∀ (A : Around) (i : Nat) (s : Shared) (Q : Value → Shared → Prop) (E : Value → Shared → Prop), tn i s.heap → Q (.ref it) s → wpAny (model P w) A (pyIter (.ref it)) Q E s
abbrev TI := St → Hp → (It → Hp → Prop) → Prop
def PIE (X : Cx) (pins : List (Addr × Obj)) (σ : St) (tg : Expr) (R : It → Hp → Prop) (itv : Value) (s2 : Shared) : Prop :=
  ∃ (it : Addr) (fp : List Addr) (tn : Nat → Heap → Prop) (J : It) (H' : Hp), itv = .ref it ∧ Inv X pins σ H' s2 ∧ Turn X.prog X.w X.K tg J fp it tn ∧ tn 0 s2.heap ∧ (∀ b ∈ fp, z19 X pins H' b) ∧ R J H'
def PI (X : Cx) (tg iter : Expr) (wi : TI) : Prop :=
  ∀ (pins : List (Addr × Obj)) (s : Shared) (σ : St) (H : Hp) (R : It → Hp → Prop), Inv X pins σ H s → wi σ H R →
    wpAny (model X.prog X.w) X.A (eval iter X.env) (fun v s1 => wpAny (model X.prog X.w) X.A (pyIter v) (PIE X pins σ tg R) X.xe s1) X.xe s
theorem z8y {M : Model} {A : Around} {E : Value → Shared → Prop} {s : Shared} {tg : Expr} {it : Addr} {u : Value} {o : Obj} {n : String} {vs : Array Value} {Q : Unit → Shared → Prop} (ho : s.heap.get? it = some o) (hc : o.cls = .type n) (hd : o.data = .fields vs)
    (hn : ["enumerate", "zip", "dict_itemiterator", "dict_reverseitemiterator", "odict_iterator", "itertools.zip_longest", "itertools.pairwise"].contains n = false) (hQ : Q () s) : wpAny M A (letOwnedTupleGo tg (.ref it) u) Q E s := by
  unfold letOwnedTupleGo;cases tg <;> first
    | exact wpAny_pure hQ
    | (cases u <;> first
        | exact wpAny_pure hQ
        | (refine wpAny_bind (wpAny_load ho ?_)
           rw [hc, hd]
           show wpAny M A (if (["enumerate", "zip", "dict_itemiterator", "dict_reverseitemiterator", "odict_iterator", "itertools.zip_longest", "itertools.pairwise"].contains n && vs[0]? == some (rawInt _)) = true then _ else _) Q E s
           rw [if_neg (by intro h; rw [hn, Bool.false_and] at h; cases h)];exact wpAny_pure hQ))
def Itl (K : PySem.W.Frag) (a : Addr) : It :=
  ⟨fun i H => ∃ xs x, SqL K H a xs ∧ xs[i]? = some x, fun i H x H' => H' = H ∧ ∀ xs, SqL K H a xs → xs[i]? = some x, fun i H => ∃ xs, SqL K H a xs ∧ xs.length ≤ i⟩
def Itt (K : PySem.W.Frag) (a : Addr) : It :=
  ⟨fun i H => ∃ xs x, SqT K H a xs ∧ xs[i]? = some x, fun i H x H' => H' = H ∧ ∀ xs, SqT K H a xs → xs[i]? = some x, fun i H => ∃ xs, SqT K H a xs ∧ xs.length ≤ i⟩
def Itr (lo : Int) (n : Nat) : It := ⟨fun i _ => i < n, fun i H x H' => H' = H ∧ x = .int (lo + i), fun i _ => n ≤ i⟩
theorem z7B {P : Program} {w : World} {K : PySem.W.Frag} {tg : Expr} (a it : Addr) : Turn P w K tg (Itl K a) [it] it (fun i h => h.IsListIter it a i) where
  mem := by simp
  obj := fun i h st b hb => by
    have e : b = it := by simpa using hb
    subst e;obtain ⟨o, e, c, d⟩ := st;exact ⟨o, e, fun v z => by rw [d] at z; cases z⟩
  keep := fun i h h' st k => st.at fun o e => k it (by simp) o e
  item := by
    intro X hP hw hK hc i pins s σ H E I hf st hg;subst hP hw hK;obtain ⟨xs, x, hq, hx⟩ := hg;obtain ⟨its, rv, p, hz⟩ := I.list hq;obtain ⟨u, hu, ru⟩ := rv.get hx;obtain ⟨f0, f1, f2, f3, f4, f5⟩ := hf it (by simp);refine wpAny_pyNext_list_item st p.isList (x := u) (by simpa using hu) fun h' st' sb => ?_
    have I1 : Inv X pins σ H { s with heap := h' } := I.turned (t' := s.toks) (fun b o hb e => (sb.2 b hb).trans e) f0 f1 f3 f4 f5;obtain ⟨o, e, c, d⟩ := id st';exact ⟨u, rfl, z8y (s := { s with heap := h' }) e c d (by decide) ⟨x, H, I1, ru, ⟨rfl, fun ys hy => by rw [I.list_inj hy hq]; exact hx⟩, st', fun b hb => (hf b hb).1⟩⟩
  done := by
    intro X hP hw hK hc i pins s σ H E I hf st hg;subst hP hw hK;obtain ⟨xs, hq, hx⟩ := hg;obtain ⟨its, rv, p, hz⟩ := I.list hq;obtain ⟨f0, f1, f2, f3, f4, f5⟩ := hf it (by simp);have hl := rv.length;exact wpAny_pyNext_list_end (I.ok.hd hc) st p.isList (by simp; omega) fun h' eb => ⟨rfl, I.turned (t' := s.toks) (fun b o hb e => eb b o hb e) f0 f1 f3 f4 f5⟩
  self := fun _ _ _ _ _ st h => wpAny_pyIter_listiter st h
theorem z6K {P : Program} {w : World} {K : PySem.W.Frag} {tg : Expr} (a it : Addr) : Turn P w K tg (Itt K a) [it] it (fun i h => h.IsTupleIter it a i) where
  mem := by simp
  obj := fun i h st b hb => by
    have e : b = it := by simpa using hb
    subst e;obtain ⟨o, e, c, d⟩ := st;exact ⟨o, e, fun v z => by rw [d] at z; cases z⟩
  keep := fun i h h' st k => st.at fun o e => k it (by simp) o e
  item := by
    intro X hP hw hK hc i pins s σ H E I hf st hg;subst hP hw hK;obtain ⟨xs, x, hq, hx⟩ := hg;obtain ⟨its, rv, p, hz⟩ := I.tuple hq;obtain ⟨u, hu, ru⟩ := rv.get hx;obtain ⟨f0, f1, f2, f3, f4, f5⟩ := hf it (by simp);refine wpAny_pyNext_tuple_item st (show s.heap.IsTuple a its.toArray from p) (x := u) (by simpa using hu) fun h' st' sb => ?_
    have I1 : Inv X pins σ H { s with heap := h' } := I.turned (t' := s.toks) (fun b o hb e => (sb.2 b hb).trans e) f0 f1 f3 f4 f5;obtain ⟨o, e, c, d⟩ := id st';exact ⟨u, rfl, z8y (s := { s with heap := h' }) e c d (by decide) ⟨x, H, I1, ru, ⟨rfl, fun ys hy => by rw [I.tuple_inj hy hq]; exact hx⟩, st', fun b hb => (hf b hb).1⟩⟩
  done := by
    intro X hP hw hK hc i pins s σ H E I hf st hg;subst hP hw hK;obtain ⟨xs, hq, hx⟩ := hg;obtain ⟨its, rv, p, hz⟩ := I.tuple hq;obtain ⟨f0, f1, f2, f3, f4, f5⟩ := hf it (by simp);have hl := rv.length;exact wpAny_pyNext_tuple_end (I.ok.hd hc) st (show s.heap.IsTuple a its.toArray from p) (by simp; omega) fun h' eb => ⟨rfl, I.turned (t' := s.toks) (fun b o hb e => eb b o hb e) f0 f1 f3 f4 f5⟩
  self := fun _ _ _ _ _ st h => wpAny_pyIter_tupleiter st h
theorem z6b {P : Program} {w : World} {K : PySem.W.Frag} {tg : Expr} (it : Addr) (lo : Int) (n : Nat) : Turn P w K tg (Itr lo n) [it] it (fun i h => IsRangeIter h it (lo + (i : Nat) * 1) ((n : Int) - (i : Nat)) 1) where
  mem := by simp
  obj := fun i h st b hb => by
    have e : b = it := by simpa using hb
    subst e;exact ⟨_, st, fun v z => by
      have z' : Data.fields _ = Data.cell v := z;cases z'⟩
  keep := fun i h h' st k => k it (by simp) _ st
  item := by
    intro X hP hw hK hc i pins s σ H E I hf st hg;subst hP hw hK;obtain ⟨f0, f1, f2, f3, f4, f5⟩ := hf it (by simp);have W := Walks.range (prog := X.prog) (w := X.w) (I.ok.hd hc) it lo 1 n;refine W.item i s _ _ hg st fun v h' tk hv st' kk => ?_
    obtain ⟨t, rfl⟩ := hv;have I1 : Inv X pins σ H { s with heap := h', toks := tk } := I.turned (fun b o hb e => kk b o (by simpa using hb) e) f0 f1 f3 f4 f5;refine ⟨_, rfl, z8y (s := { s with heap := h', toks := tk }) (n := "range_iterator") st' rfl rfl (by decide) ⟨.int (lo + i), H, I1, ⟨t, ?_⟩, ⟨rfl, rfl⟩, st', fun b hb => (hf b hb).1⟩⟩;rw [Int.mul_one]
  done := by
    intro X hP hw hK hc i pins s σ H E I hf st hg;subst hP hw hK;obtain ⟨f0, f1, f2, f3, f4, f5⟩ := hf it (by simp);exact wpAny_pyNext_range_end (I.ok.hd hc) st (by have : n ≤ i := hg; omega) fun h' eb => ⟨rfl, I.turned (t' := s.toks) (fun b o hb e => eb b o hb e) f0 f1 f3 f4 f5⟩
  self := fun _ _ _ _ _ st h => wpAny_pyIter_rangeiter st h
end L2
namespace L2
open PySem PySem.Spec PyProof.Rows
section
variable {X : Cx} {tg : Expr}
def zae (K : PySem.W.Frag) (tl : TE) : TI := fun σ H R => tl σ H fun x H1 => ∃ a, x = .ref a ∧ (∃ xs, SqL K H1 a xs) ∧ R (Itl K a) H1
def zca (K : PySem.W.Frag) (tl : TE) : TI := fun σ H R => tl σ H fun x H1 => ∃ a, x = .ref a ∧ (∃ xs, SqT K H1 a xs) ∧ R (Itt K a) H1
theorem kc {l : Expr} {tl : TE} (hl : PE X l tl) : PI X tg l (zae X.K tl) := by
  intro pins s σ H R I h;refine thn (hl pins s σ H _ I h) fun v s1 ⟨x, H1, I1, r1, q1⟩ => ?_
  obtain ⟨a, e, ⟨xs, hq⟩, q⟩ := q1;subst e;cases r1;obtain ⟨its, rv, p, hz⟩ := I1.list hq;refine wpAny_pyIter_list p.isList ?_;refine ⟨s1.heap.objs.size, [s1.heap.objs.size], _, _, H1, rfl, I1.kept (t' := s1.toks) fun b o e => Heap.get?_push_of_some _ e, z7B a _, ⟨_, Heap.get?_push_size _ rfl, rfl, rfl⟩, fun b hb => ?_, q⟩;have e : b = s1.heap.objs.size := by simpa using hb
  subst e;exact I1.fpOk (Nat.le_refl _) (I1.hok.fresh (Nat.le_refl _))
theorem z6t {l : Expr} {tl : TE} (hl : PE X l tl) : PI X tg l (zca X.K tl) := by
  intro pins s σ H R I h;refine thn (hl pins s σ H _ I h) fun v s1 ⟨x, H1, I1, r1, q1⟩ => ?_
  obtain ⟨a, e, ⟨xs, hq⟩, q⟩ := q1;subst e;cases r1;obtain ⟨its, rv, p, hz⟩ := I1.tuple hq;refine wpAny_pyIter_tuple (show s1.heap.IsTuple a its.toArray from p) ?_;refine ⟨s1.heap.objs.size, [s1.heap.objs.size], _, _, H1, rfl, I1.kept (t' := s1.toks) fun b o e => Heap.get?_push_of_some _ e, z6K a _, ⟨_, Heap.get?_push_size _ rfl, rfl, rfl⟩, fun b hb => ?_, q⟩;have e : b = s1.heap.objs.size := by simpa using hb
  subst e;exact I1.fpOk (Nat.le_refl _) (I1.hok.fresh (Nat.le_refl _))
theorem z5R {pins : List (Addr × Obj)} {σ : St} {H : Hp} {s : Shared} {R : It → Hp → Prop} {E : Value → Shared → Prop} {lo hi : Int} {t u v : Tok} {tk : Nat} (I : Inv X pins σ H s) (h1 : -(2 ^ 62) ≤ lo) (h2 : lo < 2 ^ 62) (h3 : -(2 ^ 62) ≤ hi) (h4 : hi < 2 ^ 62)
    (q : R (Itr lo (hi - lo).toNat) H) : wpAny (model X.prog X.w) X.A (pyIter (.ref s.heap.objs.size)) (PIE X pins σ tg R) E { s with heap := s.heap.push { cls := .type "range", data := .fields #[.int lo t, .int hi u, .int 1 v] }, toks := tk } := by
  refine wpAny_pyIter_range (IsRange.new ..) (small_one h1 h2 h3 h4) ?_;have I1 : Inv X pins σ H { s with heap := s.heap.push { cls := .type "range", data := .fields #[.int lo t, .int hi u, .int 1 v] }, toks := tk } := I.kept fun b o e => Heap.get?_push_of_some _ e
  refine ⟨(s.heap.push { cls := .type "range", data := .fields #[.int lo t, .int hi u, .int 1 v] }).objs.size, [(s.heap.push { cls := .type "range", data := .fields #[.int lo t, .int hi u, .int 1 v] }).objs.size], _, _, H, rfl,
    I1.kept (t' := tk) fun b o e => Heap.get?_push_of_some _ e, z6b _ lo (hi - lo).toNat, ?_, fun b hb => ?_, q⟩
  · have e1 : lo + ((0 : Nat) : Int) * 1 = lo := by simp
    have e2 : (((hi - lo).toNat : Nat) : Int) - ((0 : Nat) : Int) = Builtin.Range.rangeSize lo hi 1 := by rw [rangeSize_one]; split <;> omega
    show IsRangeIter _ _ (lo + ((0 : Nat) : Int) * 1) ((((hi - lo).toNat : Nat) : Int) - ((0 : Nat) : Int)) 1
    rw [e1, e2];exact Heap.get?_push_size _ rfl
  · have e : b = (s.heap.push { cls := .type "range", data := .fields #[.int lo t, .int hi u, .int 1 v] }).objs.size := by simpa using hb
    subst e;exact I1.fpOk (Nat.le_refl _) (I1.hok.fresh (Nat.le_refl _))
def zbf (ta : TA) : TI := fun σ H R => ta σ H fun vs H1 => ∃ j : Int, vs = [.int j] ∧ -(2 ^ 62) ≤ j ∧ j < 2 ^ 62 ∧ R (Itr 0 j.toNat) H1
def zbt (ta : TA) : TI := fun σ H R => ta σ H fun vs H1 => ∃ i j : Int, vs = [.int i, .int j] ∧ (-(2 ^ 62) ≤ i ∧ i < 2 ^ 62 ∧ -(2 ^ 62) ≤ j ∧ j < 2 ^ 62) ∧ R (Itr i (j - i).toNat) H1
theorem kd {a : Expr} {ta : TA} {p pos : Pos} (hg : Gl X "range") (hm : X.mg "range" = none) (ha : PA X [a] ta) (hs : starEach [a] X.env = [(false, eval a X.env)] := by rfl) : PI X tg (.Call (.Name "range" p) [a] [] pos) (zbf ta) := by
  intro pins s σ H R I h;refine Call_ (z2p I hg hm boot_range (PyProof.Rows.callWith_type1 (thn (ha pos pins s σ H _ I h) fun us s1 ⟨vs, H1, I1, r1, q1⟩ => ?_) hs rfl));obtain ⟨j, e, q1, q2, q⟩ := q1;subst e;cases r1 with
  | cons r rr =>
    cases rr;obtain ⟨t, rfl⟩ := r;exact call_range_1 (z5R I1 (by omega) (by omega) q1 q2 (by simpa using q))
theorem z7p {a b : Expr} {ta : TA} {p pos : Pos} (hg : Gl X "range") (hm : X.mg "range" = none) (ha : PA X [a, b] ta) (hs : starEach [a, b] X.env = [(false, eval a X.env), (false, eval b X.env)] := by rfl) (hs2 : starEach [b] X.env = [(false, eval b X.env)] := by rfl) :
    PI X tg (.Call (.Name "range" p) [a, b] [] pos) (zbt ta) := by
  intro pins s σ H R I h;refine Call_ (z2p I hg hm boot_range (PyProof.Rows.callWith_type1 (thn (ha pos pins s σ H _ I h) fun us s1 ⟨vs, H1, I1, r1, q1⟩ => ?_) (by rw [hs, hs2]) (by rw [hs2]; rfl)));obtain ⟨i, j, e, ⟨q1, q2, q3, q4⟩, q⟩ := q1;subst e;cases r1 with
  | cons r rr =>
    cases rr with
    | cons r' rr =>
      cases rr;obtain ⟨t, rfl⟩ := r;obtain ⟨t', rfl⟩ := r';exact call_range_2 (z5R I1 q1 q2 q3 q4 q)
def zc2 (wi : TI) (g : TG) (tb : TS) : TS := fun D σ H => wi σ H fun J H1 => ∃ W : Nat → Nat → St → Hp → Prop, (∃ m, W 0 m σ H1) ∧ ∀ i m σ H, W i m σ H →
  (J.stop i H ∧ D.nx σ H) ∨ (J.go i H ∧ ∃ N : St → Hp → Prop, (∀ σ' H', N σ' H' → ∃ m', m' < m ∧ W (i + 1) m' σ' H') ∧ ∀ x H', J.yld i H x H' → g x σ H' fun σ2 H2 => tb { D with nx := N, ct := N, bk := D.nx } σ2 H2)
def z1K (fp : List Addr) (h : Heap) : List (Addr × Obj) := fp.filterMap fun b => (h.get? b).map fun o => (b, o)
theorem kL {fp : List Addr} {h : Heap} {b : Addr} {o : Obj} (hb : b ∈ fp) (e : h.get? b = some o) : (b, o) ∈ z1K fp h := List.mem_filterMap.mpr ⟨b, hb, by rw [e]; rfl⟩
theorem z7W {fp : List Addr} {h : Heap} {p : Addr × Obj} (hp : p ∈ z1K fp h) : p.1 ∈ fp ∧ h.get? p.1 = some p.2 := by
  obtain ⟨b, hb, e⟩ := List.mem_filterMap.mp hp;cases q : h.get? b with
  | none => rw [q] at e; cases e
  | some o =>
    rw [q] at e;have e' : (b, o) = p := Option.some.inj e;subst e';exact ⟨hb, q⟩
theorem Inv.pinned {pins : List (Addr × Obj)} {σ : St} {H : Hp} {s : Shared} {fp : List Addr} (I : Inv X pins σ H s) (hf : ∀ b ∈ fp, z19 X pins H b) (ho : ∀ b ∈ fp, ∃ o, s.heap.get? b = some o ∧ ∀ v, o.data ≠ .cell v) : Inv X (pins ++ z1K fp s.heap) σ H s :=
  I.pins_of fun p hp => (List.mem_append.mp hp).elim (fun z => I.pin p (List.mem_append_right _ z)) fun z => by
    obtain ⟨hb, e⟩ := z7W z;obtain ⟨f0, f1, f2, _⟩ := hf p.1 hb;obtain ⟨o, e', d⟩ := ho p.1 hb;rw [e] at e'; cases e';exact ⟨e, f0, f1, f2, d⟩
theorem Inv.unpinned {pins pl : List (Addr × Obj)} {σ : St} {H : Hp} {s : Shared} (I : Inv X (pins ++ pl) σ H s) : Inv X pins σ H s := I.pins_of fun p hp => I.pin p (List.mem_append_right _ (List.mem_append_left _ hp))
theorem z02 {iter : Expr} {body : List Stmt} {wi : TI} {g : TG} {tb : TS} {pos : Pos} (hp : PassesOwn (model X.prog X.w) X.A X.env X.xe) (hc : X.calm = true) (hi : PI X tg iter wi) (hg : PG X tg g) (hb : PSs X body tb)
    (hs : ∀ x, foldedSetIterable iter X.env x = pure x := by intro _; rfl) : PS X (.For tg iter body [] pos) (zc2 wi g tb) := by
  intro pins s σ H D I h;refine wpAny_For (thn (hi pins s σ H _ I h) fun v s1 h1 => thn h1 fun itv s2 h2 => ?_) hs;obtain ⟨it, fp, tn, J, H2, e, I2, T, st2, f2, W, ⟨m0, w0⟩, turn⟩ := h2;subst e;have stat : ∀ {H' : Hp}, (∀ b ∈ fp, H' b = none) → ∀ b ∈ fp, z19 X pins H' b := fun hn b hb => ⟨hn b hb, (f2 b hb).2⟩
  refine codeAny_forLoop_any (fun n s' => ∃ i σ' H', Inv X pins σ' H' s' ∧ tn i s'.heap ∧ (∀ b ∈ fp, H' b = none) ∧ W i n σ' H') ?_ m0 ⟨0, σ, H2, I2, st2, fun b hb => (f2 b hb).1, w0⟩;rintro n s3 ⟨i, σ3, H3, I3, st3, fr3, w3⟩;rcases turn i n σ3 H3 w3 with ⟨stop, qn⟩ | ⟨go, N, hN, step⟩
  · refine wpAny_passesOwn hp (thn (T.done X rfl rfl rfl hc i pins s3 σ3 H3 X.xe I3 (stat fr3) st3 stop) fun r s4 ⟨hr, I4⟩ => ?_);subst hr;exact wpAny_execs_nil ⟨σ3, H3, I4, qn⟩
  · refine wpAny_passesOwn hp (thn (T.item X rfl rfl rfl hc i pins s3 σ3 H3 X.xe I3 (stat fr3) st3 go) fun r s4 ⟨u, hr, h4⟩ => ?_);subst hr;refine wpAny_passesOwn hp (thn h4 fun _ s5 ⟨x, H5, I5, r5, y5, st5, fr5⟩ => ?_);have I5' := I5.pinned (stat fr5) (T.obj _ _ st5);refine wpAny_passesOwn hp (thn (hg _ s5 σ3 H5 x u _ I5' r5 (step x H5 y5)) fun _ s6 ⟨σ6, H6, I6, q6⟩ => ?_);refine wpAny_passesOwn hp (thn (hb _ s6 σ6 H6 _ I6 q6) fun f s7 q7 => ?_);have again : ∀ {σ7 : St} {H7 : Hp}, Inv X (pins ++ z1K fp s5.heap) σ7 H7 s7 → N σ7 H7 → ∃ m, m < n ∧ ∃ i σ' H', Inv X pins σ' H' s7 ∧ tn i s7.heap ∧ (∀ b ∈ fp, H' b = none) ∧ W i m σ' H' := fun {σ7 H7} I7 n7 => by
      obtain ⟨m', hm, w7⟩ := hN σ7 H7 n7;refine ⟨m', hm, i + 1, σ7, H7, I7.unpinned, T.keep _ _ _ st5 fun b hb o e => (I7.pin (b, o) (List.mem_append_right _ (List.mem_append_right _ (kL hb e)))).1, fun b hb => ?_, w7⟩;obtain ⟨o, e, d⟩ := T.obj _ _ st5 b hb;exact (I7.pin (b, o) (List.mem_append_right _ (List.mem_append_right _ (kL hb e)))).2.1
    cases f with
    | next => obtain ⟨σ7, H7, I7, n7⟩ := q7; exact again I7 n7
    | cont => obtain ⟨σ7, H7, I7, n7⟩ := q7; exact again I7 n7
    | brk => obtain ⟨σ7, H7, I7, q7⟩ := q7; exact ⟨σ7, H7, I7.unpinned, q7⟩
    | ret v => obtain ⟨x7, σ7, H7, I7, r7, q7⟩ := q7; exact ⟨x7, σ7, H7, I7.unpinned, r7, q7⟩
end
theorem z1f {K : PySem.W.Frag} {a : Addr} {xs : List V} {g : TG} {tb : TS} {D : Ends} {σ : St} {H : Hp} (Pv : Nat → St → Hp → Prop) (h0 : Pv 0 σ H) (hl : ∀ i σ H, i ≤ xs.length → Pv i σ H → SqL K H a xs)
    (hs : ∀ i x σ H, xs[i]? = some x → Pv i σ H → g x σ H fun σ2 H2 => tb { D with nx := Pv (i + 1), ct := Pv (i + 1), bk := D.nx } σ2 H2) (hd : ∀ σ H, Pv xs.length σ H → D.nx σ H) :
    ∃ W : Nat → Nat → St → Hp → Prop, (∃ m, W 0 m σ H) ∧ ∀ i m σ H, W i m σ H →
      ((Itl K a).stop i H ∧ D.nx σ H) ∨ ((Itl K a).go i H ∧ ∃ N : St → Hp → Prop, (∀ σ' H', N σ' H' → ∃ m', m' < m ∧ W (i + 1) m' σ' H') ∧ ∀ x H', (Itl K a).yld i H x H' → g x σ H' fun σ2 H2 => tb { D with nx := N, ct := N, bk := D.nx } σ2 H2) := by
  refine ⟨fun i m σ H => m = xs.length - i ∧ i ≤ xs.length ∧ Pv i σ H, ⟨xs.length, by simp, Nat.zero_le _, h0⟩, ?_⟩;rintro i m σ H ⟨rfl, hi, p⟩;have q := hl i σ H hi p;by_cases hlt : i < xs.length
  · refine .inr ⟨⟨xs, xs[i], q, by simp [hlt]⟩, Pv (i + 1), fun σ' H' p' => ⟨xs.length - (i + 1), by omega, rfl, hlt, p'⟩, fun x H' y => ?_⟩;obtain ⟨e, y⟩ := y;subst e;exact hs i x σ _ (y xs q) p
  · have e : i = xs.length := by omega
    subst e;exact .inl ⟨⟨xs, q, Nat.le_refl _⟩, hd σ H p⟩
theorem za3 {K : PySem.W.Frag} {a : Addr} {xs : List V} {g : TG} {tb : TS} {D : Ends} {σ : St} {H : Hp} (Pv : Nat → St → Hp → Prop) (h0 : Pv 0 σ H) (hl : ∀ i σ H, i ≤ xs.length → Pv i σ H → SqT K H a xs)
    (hs : ∀ i x σ H, xs[i]? = some x → Pv i σ H → g x σ H fun σ2 H2 => tb { D with nx := Pv (i + 1), ct := Pv (i + 1), bk := D.nx } σ2 H2) (hd : ∀ σ H, Pv xs.length σ H → D.nx σ H) :
    ∃ W : Nat → Nat → St → Hp → Prop, (∃ m, W 0 m σ H) ∧ ∀ i m σ H, W i m σ H →
      ((Itt K a).stop i H ∧ D.nx σ H) ∨ ((Itt K a).go i H ∧ ∃ N : St → Hp → Prop, (∀ σ' H', N σ' H' → ∃ m', m' < m ∧ W (i + 1) m' σ' H') ∧ ∀ x H', (Itt K a).yld i H x H' → g x σ H' fun σ2 H2 => tb { D with nx := N, ct := N, bk := D.nx } σ2 H2) := by
  refine ⟨fun i m σ H => m = xs.length - i ∧ i ≤ xs.length ∧ Pv i σ H, ⟨xs.length, by simp, Nat.zero_le _, h0⟩, ?_⟩;rintro i m σ H ⟨rfl, hi, p⟩;have q := hl i σ H hi p;by_cases hlt : i < xs.length
  · refine .inr ⟨⟨xs, xs[i], q, by simp [hlt]⟩, Pv (i + 1), fun σ' H' p' => ⟨xs.length - (i + 1), by omega, rfl, hlt, p'⟩, fun x H' y => ?_⟩;obtain ⟨e, y⟩ := y;subst e;exact hs i x σ _ (y xs q) p
  · have e : i = xs.length := by omega
    subst e;exact .inl ⟨⟨xs, q, Nat.le_refl _⟩, hd σ H p⟩
theorem z0F {lo : Int} {n : Nat} {g : TG} {tb : TS} {D : Ends} {σ : St} {H : Hp} (Pv : Nat → St → Hp → Prop) (h0 : Pv 0 σ H)
    (hs : ∀ i σ H, i < n → Pv i σ H → g (.int (lo + i)) σ H fun σ2 H2 => tb { D with nx := Pv (i + 1), ct := Pv (i + 1), bk := D.nx } σ2 H2) (hd : ∀ σ H, Pv n σ H → D.nx σ H) :
    ∃ W : Nat → Nat → St → Hp → Prop, (∃ m, W 0 m σ H) ∧ ∀ i m σ H, W i m σ H →
      ((Itr lo n).stop i H ∧ D.nx σ H) ∨ ((Itr lo n).go i H ∧ ∃ N : St → Hp → Prop, (∀ σ' H', N σ' H' → ∃ m', m' < m ∧ W (i + 1) m' σ' H') ∧ ∀ x H', (Itr lo n).yld i H x H' → g x σ H' fun σ2 H2 => tb { D with nx := N, ct := N, bk := D.nx } σ2 H2) := by
  refine ⟨fun i m σ H => m = n - i ∧ i ≤ n ∧ Pv i σ H, ⟨n, by simp, Nat.zero_le _, h0⟩, ?_⟩;rintro i m σ H ⟨rfl, hi, p⟩;by_cases hlt : i < n
  · refine .inr ⟨hlt, Pv (i + 1), fun σ' H' p' => ⟨n - (i + 1), by omega, rfl, hlt, p'⟩, fun x H' y => ?_⟩;obtain ⟨e, y⟩ := y;subst e y;exact hs i σ _ hlt p
  · have e : i = n := by omega
    subst e;exact .inl ⟨Nat.le_refl _, hd σ H p⟩
end L2
namespace L2
open PySem PySem.Spec PyProof.Rows
abbrev R2 := V → V → Hp → VK → Prop
def OpR (X : Cx) (f : Value → Value → Sem Value) (r : R2) : Prop :=
  ∀ (pins : List (Addr × Obj)) (s : Shared) (σ : St) (H : Hp) (x y : V) (v u : Value) (Q : VK), Inv X pins σ H s → RelV x v → RelV y u → r x y H Q →
    wpAny (model X.prog X.w) X.A (f v u) (EP X pins σ Q) X.xe s
def UnR (X : Cx) (f : Value → Sem Value) (r : V → Hp → VK → Prop) : Prop :=
  ∀ (pins : List (Addr × Obj)) (s : Shared) (σ : St) (H : Hp) (x : V) (v : Value) (Q : VK), Inv X pins σ H s → RelV x v → r x H Q →
    wpAny (model X.prog X.w) X.A (f v) (EP X pins σ Q) X.xe s
def z03 (X : Cx) (f : Value) (r : List V → Hp → VK → Prop) : Prop :=
  ∀ (pins : List (Addr × Obj)) (s : Shared) (σ : St) (H : Hp) (xs : List V) (us : List Value) (Q : VK), Inv X pins σ H s → jb xs us → r xs H Q →
    wpAny (model X.prog X.w) X.A (call f us) (EP X pins σ Q) X.xe s
def zc1 (X : Cx) (r : V → Hp → (Bool → Hp → Prop) → Prop) : Prop :=
  ∀ (pins : List (Addr × Obj)) (s : Shared) (σ : St) (H : Hp) (x : V) (v : Value) (Q : Bool → Hp → Prop), Inv X pins σ H s → RelV x v → r x H Q →
    wpAny (model X.prog X.w) X.A (truthy v) (TP X pins σ Q) X.xe s
def tOp (r : R2) (ta tb : TE) : TE := fun σ H Q => ta σ H fun x H1 => tb σ H1 fun y H2 => r x y H2 Q
def tUn (r : V → Hp → VK → Prop) (ta : TE) : TE := fun σ H Q => ta σ H fun x H1 => r x H1 Q
def rI (C : Int → Int → Prop) (g : Int → Int → V) : R2 := fun x y H Q => ∃ i j, x = .int i ∧ y = .int j ∧ C i j ∧ Q (g i j) H
def rI0 (g : Int → Int → V) : R2 := fun x y H Q => ∃ i j, x = .int i ∧ y = .int j ∧ Q (g i j) H
def rU (g : Int → V) : V → Hp → VK → Prop := fun x H Q => ∃ i, x = .int i ∧ Q (g i) H
section
variable {X : Cx} {a b c : Expr} {ta tb tc : TE} {pos : Pos}
theorem zb8 (ha : PE X a ta) (hb : PE X b tb) {pins : List (Addr × Obj)} {s : Shared} {σ : St} {H : Hp} {R : V → V → Hp → Prop} (I : Inv X pins σ H s)
    (h : ta σ H fun x H1 => tb σ H1 fun y H2 => R x y H2) {Q : Value → Shared → Prop} {f : Value → Value → Sem Value}
    (hf : ∀ v u s2 x y H2, Inv X pins σ H2 s2 → RelV x v → RelV y u → R x y H2 → wpAny (model X.prog X.w) X.A (f v u) Q X.xe s2) :
    wpAny (model X.prog X.w) X.A (eval a X.env) (fun v s₁ => wpAny (model X.prog X.w) X.A (eval b X.env) (fun u s₂ => wpAny (model X.prog X.w) X.A (f v u) Q X.xe s₂) X.xe s₁) X.xe s := by
  refine thn (ha pins s σ H _ I h) fun v s1 ⟨x, H1, I1, r1, q1⟩ => ?_
  refine thn (hb pins s1 σ H1 _ I1 q1) fun u s2 ⟨y, H2, I2, r2, q2⟩ => ?_
  exact hf v u s2 x y H2 I2 r1 r2 q2
theorem zr {op : Operator} {r : R2} (ho : OpR X (binaryOp op) r) (ha : PE X a ta) (hb : PE X b tb) : PE X (.BinOp a op b pos) (tOp r ta tb) := by
  intro pins s σ H Q I h;exact wpAny_BinOp (zb8 ha hb I h fun v u s2 x y H2 I2 rx ry q => ho pins s2 σ H2 x y v u Q I2 rx ry q)
theorem z1g {op : UnaryOp} {r : V → Hp → VK → Prop} (ho : UnR X (unaryOp op) r) (ha : PE X a ta) : PE X (.UnaryOp op a pos) (tUn r ta) := by
  intro pins s σ H Q I h;exact UnaryOp_ (thn (ha pins s σ H _ I h) fun v s1 ⟨x, H1, I1, r1, q1⟩ => ho pins s1 σ H1 x v Q I1 r1 q1)
theorem opI {f : Value → Value → Sem Value} {C : Int → Int → Prop} {g : Int → Int → Int}
    (rule : ∀ (i j : Int) (t u : Tok) (s : Shared) (Q : Value → Shared → Prop) (E : Value → Shared → Prop), C i j → Q (.int (g i j) s.toks) { s with toks := s.toks + 1 } → wpAny (model X.prog X.w) X.A (f (.int i t) (.int j u)) Q E s) :
    OpR X f (rI C fun i j => .int (g i j)) := by
  intro pins s σ H x y v u Q I rx ry h;obtain ⟨i, j, rfl, rfl, hc, q⟩ := h;obtain ⟨t, rfl⟩ := rx;obtain ⟨t', rfl⟩ := ry;exact rule i j t t' s _ _ hc ⟨.int (g i j), H, I.tok _, ⟨_, rfl⟩, q⟩
theorem zbT {f : Value → Value → Sem Value} {g : Int → Int → Int}
    (rule : ∀ (i j : Int) (t u : Tok) (s : Shared) (Q : Value → Shared → Prop) (E : Value → Shared → Prop), Q (.int (g i j) s.toks) { s with toks := s.toks + 1 } → wpAny (model X.prog X.w) X.A (f (.int i t) (.int j u)) Q E s) :
    OpR X f (rI0 fun i j => .int (g i j)) := by
  intro pins s σ H x y v u Q I rx ry h;obtain ⟨i, j, rfl, rfl, q⟩ := h;obtain ⟨t, rfl⟩ := rx;obtain ⟨t', rfl⟩ := ry;exact rule i j t t' s _ _ ⟨.int (g i j), H, I.tok _, ⟨_, rfl⟩, q⟩
theorem zax {f : Value → Value → Sem Value} {g : Int → Int → Bool}
    (rule : ∀ (i j : Int) (t u : Tok) (s : Shared) (Q : Value → Shared → Prop) (E : Value → Shared → Prop), Q (.bool (g i j)) s → wpAny (model X.prog X.w) X.A (f (.int i t) (.int j u)) Q E s) :
    OpR X f (rI0 fun i j => .bl (g i j)) := by
  intro pins s σ H x y v u Q I rx ry h;obtain ⟨i, j, rfl, rfl, q⟩ := h;obtain ⟨t, rfl⟩ := rx;obtain ⟨t', rfl⟩ := ry;exact rule i j t t' s _ _ ⟨.bl (g i j), H, I, rfl, q⟩
def zce (i j : Int) : Prop := 0 < j ∧ j < 1073741824
def zbk (i j : Int) : Prop := 0 ≤ j ∧ j ≤ 1000000 ∧ i.natAbs < 2 ^ 64
def zam (i j : Int) : Prop := (-(2 ^ 64) < i ∧ i < 2 ^ 64) ∨ (-(2 ^ 64) < j ∧ j < 2 ^ 64)
theorem zam.ok {i j : Int} (h : zam i j) : IntMulOk i j := by
  rcases h with ⟨h1, h2⟩ | ⟨h1, h2⟩
  · exact .of_left (intBits_le_64 h1 h2)
  · exact .of_right (intBits_le_64 h1 h2)
theorem yW : OpR X (binaryOp .Add) (rI0 fun i j => .int (i + j)) := zbT fun _ _ _ _ _ _ _ q => add_int q
theorem z14 : OpR X (binaryOp .Sub) (rI0 fun i j => .int (i - j)) := zbT fun _ _ _ _ _ _ _ q => sub_int q
theorem z1H : OpR X (binaryOp .Mult) (rI zam fun i j => .int (i * j)) := opI fun _ _ _ _ _ _ _ hc q => mul_int q hc.ok
theorem yk : OpR X (binaryOp .FloorDiv) (rI zce fun i j => .int (i / j)) := opI fun i j _ _ _ _ _ hc q => by
  have h1 : (0 : Int) < j := hc.1;have h2 : j < 1073741824 := hc.2;exact floordiv_int (by omega) (by rw [Int.fdiv_eq_ediv_of_nonneg i (by omega)]; exact q) (.inl (PyProof.noPylong_small (by omega)))
theorem j8 : OpR X (binaryOp .Mod) (rI (fun _ j => 0 < j) fun i j => .int (i % j)) := opI fun i j _ _ _ _ _ hc q => by
  have h1 : (0 : Int) < j := hc;exact mod_int' (by omega) (by rw [Int.fmod_eq_emod_of_nonneg i (by omega)]; exact q)
theorem zaN : OpR X (binaryOp .Pow) (rI zbk fun i j => .int (i ^ j.toNat)) := opI fun _ _ _ _ _ _ _ hc q => pow_int_small hc.1 hc.2.1 hc.2.2 q
theorem unI {f : Value → Sem Value} {g : Int → Int}
    (rule : ∀ (i : Int) (t : Tok) (s : Shared) (Q : Value → Shared → Prop) (E : Value → Shared → Prop), Q (.int (g i) s.toks) { s with toks := s.toks + 1 } → wpAny (model X.prog X.w) X.A (f (.int i t)) Q E s) :
    UnR X f (rU fun i => .int (g i)) := by
  intro pins s σ H x v Q I rx h;obtain ⟨i, rfl, q⟩ := h;obtain ⟨t, rfl⟩ := rx;exact rule i t s _ _ ⟨.int (g i), H, I.tok _, ⟨_, rfl⟩, q⟩
theorem z0h : UnR X (unaryOp .USub) (rU fun i => .int (-i)) := unI fun _ _ _ _ _ q => neg_int q
end
def zbC : V → V → Bool
  | .non, .non => true | .non, .int _ => true | .int _, .non => true | .non, .bl _ => true | .bl _, .non => true | .non, .str _ => true | .str _, .non => true
  | .int _, .int _ => true | .bl _, .bl _ => true | .str _, .str _ => true | .byt _, .byt _ => true
  | .int _, .str _ => true | .str _, .int _ => true | .bl _, .str _ => true | .str _, .bl _ => true
  | _, _ => false
def rEq : R2 := fun x y H Q => zbC x y = true ∧ Q (.bl (decide (x = y))) H
def rNe : R2 := fun x y H Q => zbC x y = true ∧ Q (.bl (!decide (x = y))) H
theorem z6T {i j : Int} : decide (V.int i = V.int j) = (i == j) := by
  rw [Bool.eq_iff_iff];simp
theorem z8w {i j : Bool} : decide (V.bl i = V.bl j) = (i == j) := by
  rw [Bool.eq_iff_iff];simp
theorem z72 {i j : Str} : decide (V.str i = V.str j) = (i == j) := by
  rw [Bool.eq_iff_iff];simp
theorem z71 {i j : Array UInt8} : decide (V.byt i = V.byt j) = (i.toList == j.toList) := by
  rw [Bool.eq_iff_iff];cases i;cases j;simp
section
variable {X : Cx} {a b c : Expr} {ta tb tc : TE} {pos : Pos}
theorem jt {pins : List (Addr × Obj)} {σ : St} {H : Hp} {s : Shared} {Q : VK} {k k' : Bool} (I : Inv X pins σ H s) (q : Q (.bl k) H) (e : k = k') : EP X pins σ Q (.bool k') s := by
  subst e;exact ⟨.bl k, H, I, rfl, q⟩
theorem jm : OpR X (compareOp .Eq) rEq := by
  intro pins s σ H x y v u Q I rx ry h;obtain ⟨hs, q⟩ := h;cases x with
  | non =>
    cases rx;cases y with
    | non => cases ry; exact PySem.EqNone.eq_none_none (jt I q (by simp))
    | bl j => cases ry; exact PySem.EqNone.eq_none_bool (jt I q (by simp))
    | int j => obtain ⟨t', rfl⟩ := ry; exact PySem.EqNone.eq_none_int (jt I q (by simp))
    | str j => obtain ⟨t', rfl⟩ := ry; exact PySem.EqNone.eq_none_str (jt I q (by simp))
    | _ => exact absurd (show false = true from hs) Bool.false_ne_true
  | bl i =>
    cases rx;cases y with
    | non => cases ry; exact PySem.EqNone.eq_bool_none (jt I q (by simp))
    | bl j => cases ry; exact eq_bool (jt I q z8w)
    | str j => obtain ⟨t', rfl⟩ := ry; exact PySem.EqMixed.eq_bool_str (jt I q (by simp))
    | _ => exact absurd (show false = true from hs) Bool.false_ne_true
  | int i =>
    obtain ⟨t, rfl⟩ := rx;cases y with
    | non => cases ry; exact PySem.EqNone.eq_int_none (jt I q (by simp))
    | int j => obtain ⟨t', rfl⟩ := ry; exact eq_int (jt I q z6T)
    | str j => obtain ⟨t', rfl⟩ := ry; exact PySem.EqMixed.eq_int_str (jt I q (by simp))
    | _ => exact absurd (show false = true from hs) Bool.false_ne_true
  | str i =>
    obtain ⟨t, rfl⟩ := rx;cases y with
    | non => cases ry; exact PySem.EqNone.eq_str_none (jt I q (by simp))
    | bl j => cases ry; exact PySem.EqMixed.eq_str_bool (jt I q (by simp))
    | int j => obtain ⟨t', rfl⟩ := ry; exact PySem.EqMixed.eq_str_int (jt I q (by simp))
    | str j => obtain ⟨t', rfl⟩ := ry; exact eq_str (jt I q z72)
    | _ => exact absurd (show false = true from hs) Bool.false_ne_true
  | byt i =>
    obtain ⟨t, rfl⟩ := rx;cases y with
    | byt j => obtain ⟨t', rfl⟩ := ry; exact PySem.W.eq_bytes (jt I q z71)
    | _ => exact absurd (show false = true from hs) Bool.false_ne_true
  | _ => cases y <;> exact absurd (show false = true from hs) Bool.false_ne_true
theorem z34 : OpR X (compareOp .NotEq) rNe := by
  intro pins s σ H x y v u Q I rx ry h;obtain ⟨hs, q⟩ := h;cases x with
  | non =>
    cases rx;cases y with
    | non => cases ry; exact PySem.EqNone.ne_none_none (jt I q (by simp))
    | bl j => cases ry; exact PySem.EqNone.ne_none_bool (jt I q (by simp))
    | int j => obtain ⟨t', rfl⟩ := ry; exact PySem.EqNone.ne_none_int (jt I q (by simp))
    | str j => obtain ⟨t', rfl⟩ := ry; exact PySem.EqNone.ne_none_str (jt I q (by simp))
    | _ => exact absurd (show false = true from hs) Bool.false_ne_true
  | bl i =>
    cases rx;cases y with
    | non => cases ry; exact PySem.EqNone.ne_bool_none (jt I q (by simp))
    | bl j => cases ry; exact ne_bool (jt I q (congrArg not z8w))
    | str j => obtain ⟨t', rfl⟩ := ry; exact PySem.EqMixed.ne_bool_str (jt I q (by simp))
    | _ => exact absurd (show false = true from hs) Bool.false_ne_true
  | int i =>
    obtain ⟨t, rfl⟩ := rx;cases y with
    | non => cases ry; exact PySem.EqNone.ne_int_none (jt I q (by simp))
    | int j => obtain ⟨t', rfl⟩ := ry; exact ne_int (jt I q (congrArg not z6T))
    | str j => obtain ⟨t', rfl⟩ := ry; exact PySem.EqMixed.ne_int_str (jt I q (by simp))
    | _ => exact absurd (show false = true from hs) Bool.false_ne_true
  | str i =>
    obtain ⟨t, rfl⟩ := rx;cases y with
    | non => cases ry; exact PySem.EqNone.ne_str_none (jt I q (by simp))
    | bl j => cases ry; exact PySem.EqMixed.ne_str_bool (jt I q (by simp))
    | int j => obtain ⟨t', rfl⟩ := ry; exact PySem.EqMixed.ne_str_int (jt I q (by simp))
    | str j => obtain ⟨t', rfl⟩ := ry; exact ne_str (jt I q (congrArg not z72))
    | _ => exact absurd (show false = true from hs) Bool.false_ne_true
  | byt i =>
    obtain ⟨t, rfl⟩ := rx;cases y with
    | byt j => obtain ⟨t', rfl⟩ := ry; exact PySem.W.ne_bytes (jt I q (congrArg not z71))
    | _ => exact absurd (show false = true from hs) Bool.false_ne_true
  | _ => cases y <;> exact absurd (show false = true from hs) Bool.false_ne_true
theorem z2F : OpR X (compareOp .Lt) (rI0 fun i j => .bl (decide (i < j))) := zax fun _ _ _ _ _ _ _ q => lt_int q
theorem zah : OpR X (compareOp .LtE) (rI0 fun i j => .bl (decide (i ≤ j))) := zax fun _ _ _ _ _ _ _ q => le_int q
theorem z3e : OpR X (compareOp .Gt) (rI0 fun i j => .bl (decide (j < i))) := zax fun _ _ _ _ _ _ _ q => gt_int q
theorem zaA : OpR X (compareOp .Is) (fun x y H Q => y = .non ∧ Q (.bl (decide (x = .non))) H) := by
  intro pins s σ H x y v u Q I rx ry h;obtain ⟨rfl, q⟩ := h;cases ry;refine is_none_gen (jt I q ?_);cases x <;> first
    | (cases rx; rfl)
    | (obtain ⟨t, rfl⟩ := rx; rfl)
theorem zN (b : Expr) {op : CmpOp} (h : op ≠ .In := by decide) (h2 : op ≠ .NotIn := by decide) : behindInMarks op b = false := by
  have e1 : (op == CmpOp.In) = false := by cases op <;> first | rfl | exact absurd rfl h
  have e2 : (op == CmpOp.NotIn) = false := by cases op <;> first | rfl | exact absurd rfl h2
  cases b <;> simp [behindInMarks, e1, e2]
theorem kT {op : CmpOp} {r : R2} (ho : OpR X (compareOp op) r) (ha : PE X a ta) (hb : PE X b tb) (hm : behindInMarks op b = false) : PE X (.Compare a [op] [b] pos) (tOp r ta tb) := by
  intro pins s σ H Q I h;exact wpAny_Compare1 (zb8 ha hb I h fun v u s2 x y H2 I2 rx ry q => ho pins s2 σ H2 x y v u Q I2 rx ry q) hm
def zbq (t : TE) : TT := fun σ H Q => t σ H fun x H' => ∃ k, x = .bl k ∧ Q k H'
theorem zG {op : CmpOp} {r : R2} (ho : OpR X (compareOp op) r) (ha : PE X a ta) (hb : PE X b tb) (hm : behindInMarks op b = false) : PT X (.Compare a [op] [b] pos) (zbq (tOp r ta tb)) := by
  intro pins s σ H Q I h;refine wpAny_isTrue_Compare1 (thn (ha pins s σ H _ I h) fun v s1 ⟨x, H1, I1, r1, q1⟩ => thn (hb pins s1 σ H1 _ I1 q1) fun u s2 ⟨y, H2, I2, r2, q2⟩ =>
    thn (ho pins s2 σ H2 x y v u _ I2 r1 r2 q2) fun c s3 ⟨z, H3, I3, r3, k, e, q3⟩ => ?_) hm
  subst e;cases r3;exact wpAny_truthy_bool ⟨H3, I3, q3⟩
def zbM (K : PySem.W.Frag) (x : V) (H : Hp) (k : Bool) : Prop :=
  match x with
  | .non => k = false
  | .bl b => k = b
  | .int i => k = (i != 0)
  | .str y => y.length ≤ sizeLine ∧ k = ((y.length : Int) != 0)
  | .byt y => y.size ≤ sizeLine ∧ k = ((y.size : Int) != 0)
  | .ref p => (∃ xs, SqL K H p xs ∧ k = !xs.isEmpty) ∨ (∃ xs, SqT K H p xs ∧ k = !xs.isEmpty) ∨ ∃ kvs, H p = some (.dK kvs) ∧ k = !kvs.isEmpty
  | _ => False
theorem z6I {κ : Type} {kvs : List (κ × V)} {vs : List (κ × Value)} (r : KV kvs vs) : (!vs.isEmpty) = !kvs.isEmpty := by
  cases r <;> rfl
theorem z3l {xs : List V} {its : List Value} (r : jb xs its) : (!its.toArray.isEmpty) = !xs.isEmpty := by
  cases r <;> simp
theorem z15 : (sizeLine : Nat) < 2 ^ 63 := by rw [sizeLine_eq]; decide
theorem zaI : zc1 X (fun x H Q => ∃ k, zbM X.K x H k ∧ Q k H) := by
  intro pins s σ H x v Q I rx h;obtain ⟨k, e, q⟩ := h;have hl := z15;have hs : sizeLine = 16777216 := sizeLine_eq;cases x with
  | non =>
    cases rx;have e' : k = false := e;subst e';exact truthy_none ⟨H, I, q⟩
  | bl b =>
    cases rx;have e' : k = b := e;subst e';exact wpAny_truthy_bool ⟨H, I, q⟩
  | int i =>
    obtain ⟨t, rfl⟩ := rx;have e' : k = (i != 0) := e;subst e';exact PySem.P.truthy_int ⟨H, I, q⟩
  | str y =>
    obtain ⟨t, rfl⟩ := rx;obtain ⟨hy, e'⟩ : y.length ≤ sizeLine ∧ k = ((y.length : Int) != 0) := e;subst e';exact PySem.P.truthy_str (by omega) ⟨H, I.tok _, q⟩
  | byt y =>
    obtain ⟨t, rfl⟩ := rx;obtain ⟨hy, e'⟩ : y.size ≤ sizeLine ∧ k = ((y.size : Int) != 0) := e;subst e';exact PySem.W.truthy_bytes (by omega) ⟨H, I.tok _, q⟩
  | ref p =>
    cases rx;have e' : (∃ xs, SqL X.K H p xs ∧ k = !xs.isEmpty) ∨ (∃ xs, SqT X.K H p xs ∧ k = !xs.isEmpty) ∨ ∃ kvs, H p = some (.dK kvs) ∧ k = !kvs.isEmpty := e
    rcases e' with ⟨xs, hx, e'⟩ | ⟨xs, hx, e'⟩ | ⟨kvs, hx, e'⟩
    · subst e';obtain ⟨its, r, pl, hz⟩ := I.list hx;have hlen := r.length;exact wpAny_truthy_list pl.isList (by simp only [List.size_toArray]; omega) ⟨H, I.tok _, by rw [z3l r]; exact q⟩
    · subst e';obtain ⟨its, r, pl, hz⟩ := I.tuple hx;have hlen := r.length;exact truthy_tuple pl (by simp only [List.size_toArray]; omega) ⟨H, I.tok _, by rw [z3l r]; exact q⟩
    · subst e';obtain ⟨hz, hS, vs, r, m⟩ : kvs.length ≤ sizeLine ∧ (p == sysModules) = false ∧ ∃ vs, KV kvs vs ∧ s.heap.DictOf (z4C X.prog X.w) p vs := I.hok p _ hx
      have hlen : kvs.length = vs.length := Paired.length r;exact wpAny_truthy_dict hS m (by omega) ⟨H, I.tok _, by rw [z6I r]; exact q⟩
  | _ => exact (show False from e).elim
theorem z5g (ha : PE X a ta) (he : ∀ whole, isTrue a X.env whole = (do let v ← whole; standAt a.pos; holding [v] (truthy v))) :
    PT X a (fun σ H Q => ta σ H fun x H' => ∃ k, zbM X.K x H' k ∧ Q k H') := by
  intro pins s σ H Q I h;exact isTrue_plain (thn (ha pins s σ H _ I h) fun v s1 ⟨x, H1, I1, r1, q1⟩ => zaI pins s1 σ H1 x v Q I1 r1 q1) (he _)
theorem zp : OpR X (binaryOp .Add) (fun x y H Q => ∃ i j, x = .str i ∧ y = .str j ∧ i.length + j.length ≤ sizeLine ∧ Q (.str (i ++ j)) H) := by
  intro pins s σ H x y v u Q I rx ry h;obtain ⟨i, j, rfl, rfl, hz, q⟩ := h;obtain ⟨t, rfl⟩ := rx;obtain ⟨t', rfl⟩ := ry;exact add_str (fun t' tk => ⟨.str (i ++ j), H, I.tok _, ⟨_, rfl⟩, q⟩) hz
theorem vals1 {x : V} {us : List Value} (r : jb [x] us) : ∃ u, us = [u] ∧ RelV x u := by
  cases r with
  | cons r1 r2 => cases r2; exact ⟨_, rfl, r1⟩
theorem vals2 {x y : V} {us : List Value} (r : jb [x, y] us) : ∃ u w', us = [u, w'] ∧ RelV x u ∧ RelV y w' := by
  cases r with
  | cons r1 r2 =>
    cases r2 with
    | cons r3 r4 => cases r4; exact ⟨_, _, rfl, r1, r3⟩
theorem z4i (hc : X.calm = true) : z03 X (.builtin "max") (fun xs H Q => ∃ i j, xs = [.int i, .int j] ∧ Q (.int (if j > i then j else i)) H) := by
  intro pins s σ H xs us Q I r h;obtain ⟨i, j, rfl, q⟩ := h;obtain ⟨u, w', rfl, ⟨t, rfl⟩, ⟨t', rfl⟩⟩ := vals2 r;refine max_two_ints (I.ok.hd hc) fun h' tk k => ⟨_, H, I.kept k, ?_, q⟩
  by_cases hj : j > i
  · rw [if_pos hj, if_pos hj]; exact ⟨_, rfl⟩
  · rw [if_neg hj, if_neg hj]; exact ⟨_, rfl⟩
theorem z7C (hc : X.calm = true) : z03 X (.builtin "min") (fun xs H Q => ∃ i j, xs = [.int i, .int j] ∧ Q (.int (if j < i then j else i)) H) := by
  intro pins s σ H xs us Q I r h;obtain ⟨i, j, rfl, q⟩ := h;obtain ⟨u, w', rfl, ⟨t, rfl⟩, ⟨t', rfl⟩⟩ := vals2 r;refine min_two_ints (I.ok.hd hc) fun h' tk k => ⟨_, H, I.kept k, ?_, q⟩
  by_cases hj : j < i
  · rw [if_pos hj, if_pos hj]; exact ⟨_, rfl⟩
  · rw [if_neg hj, if_neg hj]; exact ⟨_, rfl⟩
theorem z48 : z03 X (.type "int") (fun xs H Q => (∃ i, xs = [.int i] ∧ Q (.int i) H) ∨ ∃ k, xs = [.bl k] ∧ Q (.int (if k then 1 else 0)) H) := by
  intro pins s σ H xs us Q I r h;rcases h with ⟨i, rfl, q⟩ | ⟨k, rfl, q⟩
  · obtain ⟨u, rfl, t, rfl⟩ := vals1 r;exact call_int_int ⟨.int i, H, I, ⟨_, rfl⟩, q⟩
  · obtain ⟨u, rfl, r1⟩ := vals1 r;cases r1;exact call_int_bool ⟨.int (if k then 1 else 0), H, I.tok _, ⟨_, rfl⟩, q⟩
theorem z50 : z03 X (.type "str") (fun xs H Q => ∃ i, xs = [.int i] ∧ i.natAbs.log2 < 1920 ∧ Q (.str (toString i)) H) := by
  intro pins s σ H xs us Q I r h;obtain ⟨i, rfl, hz, q⟩ := h;obtain ⟨u, rfl, t, rfl⟩ := vals1 r;exact PySem.P.str_of_int hz ⟨.str _, H, I.tok _, ⟨_, rfl⟩, q⟩
end
end L2
namespace L2
open PySem PySem.Spec PyProof.Rows
structure ObjM (h : Heap) (x dx C : Addr) (mA : Str → Option Value) : Prop where
  obj : h.get? x = some (PySem.W.instObj C dx)
  ns : h.Ns1 dx mA
  ne : dx ≠ x
theorem z7H {h : Heap} {dx : Addr} {mA : Str → Option Value} (n : h.Ns1 dx mA) : ∃ od, h.get? dx = some od ∧ ∀ name, PySem.W.lookIn name od = some (mA name) := by
  obtain ⟨o, es, ep, ho, hd, hk, _, hm⟩ := n;refine ⟨o, ho, fun name => ?_⟩;have e := hm name;unfold nsFind findBy at e;rw [← Array.find?_toList] at e;unfold PySem.W.lookIn;rw [hd];dsimp only;split
  · rename_i y q;rw [q] at e;exact congrArg some e
  · rename_i q;rw [q] at e;have a : es.toList.any (·.refKey) = false := by
      rw [List.any_eq_false];intro y hy;obtain ⟨z, t, hkey⟩ := hk y (Array.mem_toList_iff.mp hy);simp [DictEntry.refKey, hkey]
    have a' : ¬ es.toList.any (·.refKey) = true := by rw [a]; exact Bool.false_ne_true
    rw [if_neg a'];exact congrArg some e
theorem ObjM.look {h : Heap} {x dx C : Addr} {mA : Str → Option Value} (I : ObjM h x dx C mA) : ∃ od, PySem.W.InstAt h x (PySem.W.instObj C dx) C (some od) ∧ ∀ name, PySem.W.lookIn name od = some (mA name) :=
  let ⟨od, ho, hl⟩ := z7H I.ns
  ⟨od, ⟨I.obj, rfl, rfl, ho⟩, hl⟩
section
variable {prog : Program} {w : World} {A : Around} {E : Value → Shared → Prop} {s : Shared} {K : PySem.W.Frag} {x dx C f : Addr} {mA : Str → Option Value} {name : Str} {v : Value}
end
section
variable {P : Program} {w : World} {H H' : Hp} {h h' : Heap} {a C dx : Addr} {fs fs' : List (Str × V)}
theorem z9g (hok : HOk P w H h) (e : H a = some (.ins C dx fs)) : ∃ mA, ObjM h a dx C mA ∧ (∀ f, zaF (fs.lookup f) (mA f)) ∧ PySem.Within mA (fs.map (·.1)) ∧ fs.length ≤ 1000 ∧ H dx = some (.own a) := by
  obtain ⟨d, z, ne, ob, mA, n, r, q⟩ := (show yP P w H h a (.ins C dx fs) from hok a _ e);exact ⟨mA, ⟨ob, n, ne⟩, r, q, z, d⟩
end
structure Cls (K : PySem.W.Frag) (C : Addr) : Prop where
  pg : PySem.W.plainGet K C Str.empty = true
  hd : PySem.W.hasDictIn K C = true
  po : PySem.W.plainOver K C = true
  sa : PySem.W.findIn K (.ref C) "__setattr__" = some (some (.builtin "object.__setattr__"))
theorem Cls.get {K : PySem.W.Frag} {C : Addr} (c : Cls K C) (f : Str) : PySem.W.plainGet K C f = true := c.pg
structure Con (K : PySem.W.Frag) (C : Addr) (f : Str) (v : V) (u : Value) : Prop where
  at_ : PySem.W.findIn K (.ref C) f = some (some u)
  rel : RelV v u
  get : PySem.W.specialIn K u "__get__" = some none
  cp : PySem.W.copiedNames.contains f = false
structure Meth (K : PySem.W.Frag) (C : Addr) (m : Str) (f : Addr) : Prop where
  at_ : PySem.W.findIn K (.ref C) m = some (some (.ref f))
  fn : PySem.W.isFn K (.ref f) = true
  kp : PySem.W.keepIn K (.ref f) = true
section
variable {X : Cx} {pins : List (Addr × Obj)} {σ : St} {H : Hp} {s : Shared} {a C dx : Addr} {fs : List (Str × V)} {f : Str} {v : V} {A : Around} {E : Value → Shared → Prop}
end
section
variable {X : Cx} {o e value : Expr} {f : Str} {pos pos' tpos : Pos} {ta tv : TE}
end
section
variable {X : Cx} {pins : List (Addr × Obj)} {σ : St} {H : Hp} {s : Shared} {A : Around} {E : Value → Shared → Prop} {Q : Value → Shared → Prop} {c : Value} {b : Bool}
inductive TyOf (K : PySem.W.Frag) (H : Hp) : V → Value → Prop where
  | non : TyOf K H .non (.type "NoneType")
  | bl (x : Bool) : TyOf K H (.bl x) (.type "bool")
  | int (i : Int) : TyOf K H (.int i) (.type "int")
  | str (x : Str) : TyOf K H (.str x) (.type "str")
  | flt (x : UInt64) : TyOf K H (.flt x) (.type "float")
  | lst {a : Addr} {xs : List V} (e : H a = some (.lst xs)) : TyOf K H (.ref a) (.type "list")
  | frz {a : Addr} {o : Obj} {xs : List V} (e : H a = some (.frz o (.lst xs))) : TyOf K H (.ref a) (.type "list")
  | tup {a : Addr} {xs : List V} (e : H a = some (.tup xs)) : TyOf K H (.ref a) (.type "tuple")
  | dK {a : Addr} {kvs : List (Key × V)} (e : H a = some (.dK kvs)) : TyOf K H (.ref a) (.type "dict")
  | dT {a : Addr} {kvs : List (List Key × V)} (e : H a = some (.dT kvs)) : TyOf K H (.ref a) (.type "dict")
  | ins {a C dx : Addr} {fs : List (Str × V)} (e : H a = some (.ins C dx fs)) (cl : Cls K C) (ha : PySem.W.findIn K (.ref C) "__class__" = some (some (.builtin "object.__class__")))
      (hn : PySem.W.specialIn K (.builtin "object.__class__") "__get__" = some (some (.builtin "getset_descriptor.__get__"))) (htk : PySem.W.takesIn K (.builtin "object.__class__") = some true)
      (hm : PySem.W.mroIn K C (.type "object") = some true) : TyOf K H (.ref a) (.ref C)
theorem z7q {x : V} {u t : Value} (I : Inv X pins σ H s) (rx : RelV x u) (ty : TyOf X.K H x t) (e : PySem.W.kitOne X.K t c = some b) (h : ∀ tk, Q (.bool b) { s with toks := tk }) :
    wpAny (model X.prog X.w) A (call (.builtin "isinstance") [u, c]) Q E s := by
  cases ty with
  | non => cases (show u = Value.none from rx); exact PySem.W.kia_one PySem.W.kitx_none I.kIn True.intro e (fun z => nomatch z) h
  | bl y => cases (show u = Value.bool y from rx); exact PySem.W.kia_one PySem.W.kitx_bool I.kIn True.intro e (fun z => nomatch z) h
  | int i => obtain ⟨t, q⟩ := (show ∃ t, u = Value.int i t from rx); cases q; exact PySem.W.kia_one PySem.W.kitx_int I.kIn True.intro e (fun z => nomatch z) h
  | str y => obtain ⟨t, q⟩ := (show ∃ t, u = Value.str y t from rx); cases q; exact PySem.W.kia_one PySem.W.kitx_str I.kIn True.intro e (fun z => nomatch z) h
  | flt y => obtain ⟨t, q⟩ := (show ∃ t, u = Value.float y t from rx); cases q; exact PySem.W.kia_one PySem.W.kitx_float I.kIn True.intro e (fun z => nomatch z) h
  | @lst a xs ea =>
    cases (show u = Value.ref a from rx);obtain ⟨_, _, n, _, h1⟩ := (show yP X.prog X.w H s.heap a (.lst xs) from I.hok a _ ea);exact PySem.W.kia_one PySem.W.kitx_list I.kIn ⟨_, h1, rfl⟩ e (fun z => nomatch z) h
  | @frz a ob xs ea =>
    cases (show u = Value.ref a from rx);obtain ⟨_, _, _, n, _, h1⟩ := (show yP X.prog X.w H s.heap a (.frz ob (.lst xs)) from I.hok a _ ea);exact PySem.W.kia_one PySem.W.kitx_list I.kIn ⟨_, h1, rfl⟩ e (fun z => nomatch z) h
  | @tup a xs ea =>
    cases (show u = Value.ref a from rx);obtain ⟨_, _, _, p⟩ := (show yP X.prog X.w H s.heap a (.tup xs) from I.hok a _ ea);obtain ⟨o, h1, h2, _⟩ := p;exact PySem.W.kia_one PySem.W.kitx_tuple I.kIn ⟨o, h1, h2⟩ e (fun z => nomatch z) h
  | @dK a kvs ea =>
    cases (show u = Value.ref a from rx);obtain ⟨_, _, vs, _, p⟩ := (show yP X.prog X.w H s.heap a (.dK kvs) from I.hok a _ ea);obtain ⟨o, es, ep, h1, h2, _⟩ := p;exact PySem.W.kia_one PySem.W.kitx_dict I.kIn ⟨o, h1, h2.1⟩ e (fun z => nomatch z) h
  | @dT a kvs ea =>
    cases (show u = Value.ref a from rx);obtain ⟨_, _, xs, _, o, es, ep, h1, h2, _⟩ := (show yP X.prog X.w H s.heap a (.dT kvs) from I.hok a _ ea);exact PySem.W.kia_one PySem.W.kitx_dict I.kIn ⟨o, h1, h2.1⟩ e (fun z => nomatch z) h
  | @ins a C dx fs ea cl ha hn htk hm =>
    cases (show u = Value.ref a from rx);obtain ⟨mA, O, _⟩ := z9g I.hok ea;obtain ⟨od, J, _⟩ := O.look;exact PySem.W.kia_one (PySem.W.kitx_own (cl.get _) cl.hd ha hn htk hm) I.kIn J e (fun z => nomatch z) h
end
end L2
namespace L2
open PySem PySem.Spec PyProof.Rows
structure Room (k : Nat) (A : Around) : Prop where
  hd : A.handled = none
  dp : A.depth + 3 * k + 5 < recursionLimit
  un : A.units + 16 * k + 200 < cLine
theorem Room.mono {j k : Nat} {A : Around} (r : Room k A) (h : j ≤ k) : Room j A := ⟨r.hd, by have := r.dp; omega, by have := r.un; omega⟩
theorem Room.deeper {k : Nat} {A : Around} (r : Room (k + 1) A) (env : Env) : Room k (A.deeper env) :=
  ⟨r.hd, by have := r.dp; show A.depth + 1 + 3 * k + 5 < _; omega, by have := r.un; show A.units + 3 + 16 * k + 200 < _; omega⟩
theorem Room.depth {k : Nat} {A : Around} (r : Room k A) : A.depth < recursionLimit := by have := r.dp; omega
theorem Room.units {k : Nat} {A : Around} (r : Room k A) : A.units + 64 < cLine := by have := r.un; omega
def zau : TA := fun _ H Q => Q [] H
def z0B (ta : TE) (tr : TA) : TA := fun σ H Q => ta σ H fun x H1 => tr σ H1 fun xs H2 => Q (x :: xs) H2
section
variable {X : Cx} {e : Expr} {es : List Expr} {te : TE} {t : TA} {pos : Pos}
theorem zi : PA X [] zau := fun _ _ _ _ H Q I h => Calls.spliced_nil ⟨[], H, I, .nil, h⟩
theorem yY (ha : PE X e te) (hr : PA X es t) (hs : starEach (e :: es) X.env = (false, eval e X.env) :: starEach es X.env := by rfl) : PA X (e :: es) (z0B te t) := by
  intro pos pins s σ H Q I h;rw [hs]
  show wpAny _ _ (spliced ((false, eval e X.env) :: backTo pos (starEach es X.env))) _ _ s
  refine Calls.spliced_cons (thn (ha pins s σ H _ I h) fun u s1 ⟨x, H1, I1, r1, q1⟩ => ?_);exact thn (hr pos pins s1 σ H1 _ I1 q1) fun us s2 ⟨xs, H2, I2, r2, q2⟩ => ⟨x :: xs, H2, I2, .cons r1 r2, q2⟩
def zcc (t : TA) : TE := fun σ H Q => t σ H fun xs H1 => xs.length ≤ sizeLine ∧ ∀ p, H1 p = none → Q (.ref p) (upd H1 p (.tup xs))
def zco (t : TA) : TE := fun σ H Q => t σ H fun xs H1 => xs.length ≤ sizeLine ∧ ∀ p, H1 p = none → Q (.ref p) (upd H1 p (.lst xs))
theorem zJ {x1} (h : PA X es t) : PE X (.Tuple es x1 pos) (zcc t) := by
  intro pins s σ H Q I hq;refine wpAny_Tuple_spliced (thn (h pos pins s σ H _ I hq) fun us s1 ⟨xs, H1, I1, r, z, q⟩ => ⟨by rw [← r.length]; exact z, ?_⟩);have hf : H1 s1.heap.objs.size = none := I1.hok.fresh (Nat.le_refl _);refine ⟨.ref s1.heap.objs.size, upd H1 s1.heap.objs.size (.tup xs), I1.laid (t' := s1.toks) (fun b u e => Heap.get?_push_of_some _ e) (Nat.le_refl _) ?_, rfl, q _ hf⟩;exact ⟨z, us, r, ⟨_, Heap.get?_push_size _ rfl, rfl, _, rfl⟩⟩
theorem zV (h : PA X es t) : PE X (.List es pos) (zco t) := by
  intro pins s σ H Q I hq;refine wpAny_List_spliced (thn (h pos pins s σ H _ I hq) fun us s1 ⟨xs, H1, I1, r, z, q⟩ => ⟨by rw [← r.length]; exact z, ?_⟩);have hf : H1 s1.heap.objs.size = none := I1.hok.fresh (Nat.le_refl _);refine ⟨.ref s1.heap.objs.size, upd H1 s1.heap.objs.size (.lst xs), I1.laid (t' := s1.toks) (fun b u e => Heap.get?_push_of_some _ e) (Nat.le_refl _) ?_, rfl, q _ hf⟩;exact ⟨z, us, 0, r, Heap.get?_push_size _ rfl⟩
end
abbrev Sp := List V → Hp → VK → XK → Prop
abbrev CXT := List Env → Hp → Shared → XK → Value → Shared → Prop
structure Env0 (P : Program) (w : World) (K : PySem.W.Frag) (mg : Str → Option Value) (base : Heap) (A : Around) (outer : List Env) (s : Shared) (H : Hp) : Prop where
  frames : A.frames = some outer
  mod : Mod K mg base
  bs : ∀ b o, base.get? b = some o → s.heap.get? b = some o ∧ H b = none
  bsz : base.objs.size ≤ s.heap.objs.size
  funs : s.heap.FunFrames base outer
  frf : ∀ b ∈ frs outer, H b = none
  hok : HOk P w H s.heap
  bare : AllBare s.gens
def CE (outer : List Env) (P : Program) (w : World) (H : Hp) (s : Shared) (Q : VK) (u : Value) (s' : Shared) : Prop :=
  ∃ v H', s'.os = s.os ∧ AllBare s'.gens ∧ Un (frs outer) [] H H' s.heap s'.heap ∧ HOk P w H' s'.heap ∧ RelV v u ∧ Q v H'
def CR (CX : CXT) (outer : List Env) (P : Program) (w : World) (H : Hp) (s : Shared) (Q : VK) (E : XK) (r : Result) (s' : Shared) : Prop :=
  match r with
  | .ok (.ret u) => CE outer P w H s Q u s'
  | .ok _ => False
  | .error e => CX outer H s E e s'
structure FnOk (P : Program) (w : World) (K : PySem.W.Frag) (mg : Str → Option Value) (base : Heap) (CX : CXT) (k : Nat) (f : Addr) (fd : FuncData) (ps : List Str) (sp : Sp) : Prop where
  len : ∀ vs H Q E, sp vs H Q E → vs.length = ps.length
  run : ∀ (A : Around) (outer : List Env) (s : Shared) (H : Hp) (args : Args) (us : List Value) (vs : List V) (Q : VK) (E : XK), Room k A → Env0 P w K mg base A outer s H → BindsTo s fd args (ps.zip us) → jb vs us → sp vs H Q E →
    codeAny (model P w) A (.call (.ref f) args) (CR CX outer P w H s Q E) s
section
variable {X : Cx} {pins : List (Addr × Obj)} {σ : St} {H : Hp} {s s' : Shared}
theorem Inv.env0 (I : Inv X pins σ H s) : Env0 X.prog X.w X.K X.mg X.base X.A X.stack s H :=
  ⟨I.ok.frames, I.ok.mod, I.bs, Nat.le_trans I.ok.bsz I.sz, I.stack, I.stkFree, I.hok, I.bare⟩
theorem Inv.after {Q : VK} {u : Value} (I : Inv X pins σ H s) (h : CE X.stack X.prog X.w H s Q u s') : EP X pins σ Q u s' := by
  obtain ⟨v, H', os, bare, un, hok, r, q⟩ := h;obtain ⟨hh, g, d, t, os'⟩ := s';obtain rfl : os' = s.os := os;exact ⟨v, H', I.call (h' := hh) (g' := g) (d' := d) (t' := t) (ch := []) un hok bare (fun b z => absurd z (by simp)), r, q⟩
end
def z8F (sp : Sp) (dvs : List V) (E : XK) (t : TA) : TE := fun σ H Q => t σ H fun vs H1 => sp (vs ++ dvs) H1 Q E
def Binds (K : PySem.W.Frag) (fd : FuncData) (ps : List Str) (ds : List Value) : Prop :=
  ∀ (s : Shared) (us : List Value), K.In s.heap → (us ++ ds).length = ps.length → BindsTo s fd ⟨us, []⟩ (ps.zip (us ++ ds))
theorem Binds.all {K : PySem.W.Frag} {fd : FuncData} {ps : List Str} (h : ∀ us : List Value, us.length = ps.length → bindArgs fd ⟨us, []⟩ = pure (ps.zip us)) : Binds K fd ps [] := fun s us _ hl => by
  rw [List.append_nil] at hl ⊢;exact .of_eq (h us hl)
def z4O (CX : CXT) (X : Cx) (E : XK) : Prop := ∀ (pins : List (Addr × Obj)) (σ : St) (H : Hp) (s : Shared) (e : Value) (s' : Shared), Inv X pins σ H s → CX X.stack H s E e s' → X.xe e s'
section
variable {X : Cx} {CX : CXT} {k : Nat} {f C : Addr} {fd : FuncData} {ps : List Str} {sp : Sp} {dvs : List V} {ds : List Value} {E : XK} {x m : Str} {p pos apos : Pos} {e o : Expr} {es : List Expr} {ta : TE} {t : TA}
theorem zaz {pins : List (Addr × Obj)} {σ : St} {H : Hp} {s : Shared} {Q : VK} {us : List Value} {vs : List V} (F : FnOk X.prog X.w X.K X.mg X.base CX k f fd ps sp) (hr : Room k X.A) (hb : Binds X.K fd ps ds) (hd : jb dvs ds) (hx : z4O CX X E)
    (I : Inv X pins σ H s) (r : jb vs us) (h : sp (vs ++ dvs) H Q E) : wpAny (model X.prog X.w) X.A (call (.ref f) us) (EP X pins σ Q) X.xe s := by
  have r2 : jb (vs ++ dvs) (us ++ ds) := r.append hd;have hl : (us ++ ds).length = ps.length := by rw [← r2.length]; exact F.len _ _ _ _ h
  refine wpAny_call (codeAny_mono (F.run X.A X.stack s H ⟨us, []⟩ (us ++ ds) (vs ++ dvs) Q E hr I.env0 (hb s us I.kIn hl) r2 h) fun r s' hq => ?_);cases r with
  | error e => exact hx pins σ H s e s' I hq
  | ok fl =>
    cases fl with
    | ret u => exact I.after hq
    | next => exact False.elim hq
    | brk => exact False.elim hq
    | cont => exact False.elim hq
theorem z7b (F : FnOk X.prog X.w X.K X.mg X.base CX k f fd ps sp) (hr : Room k X.A) (hg : Gl X x) (hm : X.mg x = some (.ref f)) (hk : PySem.W.keepIn X.K (.ref f) = true) (hb : Binds X.K fd ps ds) (hd : jb dvs ds) (hx : z4O CX X E)
    (ha : PA X (e :: es) t) (hdb : (x == ("__debug__" : Str)) = false := by decide) (he : starEach (e :: es) X.env = (false, eval e X.env) :: starEach es X.env := by rfl) (hpl : (backTo pos (starEach es X.env)).any (·.1) = false := by rfl) :
    PE X (.Call (.Name x p) (e :: es) [] pos) (z8F sp dvs E t) := by
  intro pins s σ H Q I h;refine wpAny_Call_Name_kw (z26 I hg hm ?_ hdb);refine PySem.W.callWith_K (h₀ := X.base) I.ok.mod.kin hk (thn (ha pos pins s σ H _ I h) fun us s1 ⟨vs, H1, I1, r, q⟩ => ⟨I1.kIn, ?_⟩) he hpl;exact zaz F hr hb hd hx I1 r q
structure Mk (K : PySem.W.Frag) (C f : Addr) : Prop where
  makes : PySem.W.makesIn K C = true
  init : PySem.W.findIn K (.ref C) "__init__" = some (some (.ref f))
  fn : PySem.W.isFn K (.ref f) = true
  kp : PySem.W.keepIn K (.ref C) = true
end
section
variable {X : Cx} {CX : CXT} {k : Nat} {f C : Addr} {fd : FuncData} {ps ks : List Str} {sp : Sp} {E : XK} {x m : Str} {p pos apos kpos : Pos} {e o : Expr} {es : List Expr} {kws : List Keyword} {te ta : TE} {t tk : TA} {nm : Option Str}
structure KBinds (K : PySem.W.Frag) (fd : FuncData) (ps ks : List Str) (g : List Value → List Value → List Value) (gV : List V → List V → List V) : Prop where
  to : ∀ (s : Shared) (us ws : List Value), K.In s.heap → (g us ws).length = ps.length → BindsTo s fd ⟨us, ks.zip ws⟩ (ps.zip (g us ws))
  rel : ∀ {vs : List V} {us : List Value} {zs : List V} {ws : List Value}, jb vs us → jb zs ws → jb (gV vs zs) (g us ws)
variable {g : List Value → List Value → List Value} {gV : List V → List V → List V}
end
structure FnScope (N P : List Str) (sc : Scope) : Prop where
  kind : sc.kind = .function
  co : sc.isCoroutine = false
  gen : sc.isGenerator = false
  nd : N.Nodup
  pre : N.take P.length = P
  par : ∀ x ∈ P, sc.names.lookup x = some .local ∨ sc.names.lookup x = some .cell
  nofree : ∀ y ∈ sc.names, y.2 ≠ .free
theorem z4k {kindOf : Str → Option NameKind} {x : Str} : ∀ {binds : List (Str × Value)} {m : Str → Option Value}, (∀ v, (x, v) ∉ binds) → bindL kindOf binds m x = m x
  | [], _, _ => rfl
  | (n, v) :: r, m, h => by
    unfold bindL;rw [z4k fun w hw => h w (List.mem_cons_of_mem _ hw)];split
    · have : x ≠ n := by rintro rfl; exact h v List.mem_cons_self
      simp [this]
    · rfl
theorem z4t {kindOf : Str → Option NameKind} {x : Str} : ∀ {binds : List (Str × Value)} {m : Str → Option Value}, (∀ v, (x, v) ∉ binds) → bindC kindOf binds m x = m x
  | [], _, _ => rfl
  | (n, v) :: r, m, h => by
    unfold bindC;rw [z4t fun w hw => h w (List.mem_cons_of_mem _ hw)];split
    · rfl
    · have : x ≠ n := by rintro rfl; exact h v List.mem_cons_self
      simp [this]
theorem z4l {kindOf : Str → Option NameKind} {x : Str} {v : Value} : ∀ {P : List Str} {vs : List Value} {i : Nat} {m : Str → Option Value}, P.Nodup → P[i]? = some x → vs[i]? = some v → kindOf x = some .local →
    bindL kindOf (P.zip vs) m x = some v
  | [], _, _, _, _, h, _, _ => by simp at h
  | _ :: _, [], _, _, _, _, h, _ => by simp at h
  | p :: P, w :: vs, 0, m, nd, h1, h2, hk => by
    simp at h1 h2; subst h1; subst h2
    show bindL kindOf ((p, w) :: P.zip vs) m p = _
    unfold bindL;rw [z4k fun v hv => (List.nodup_cons.mp nd).1 (List.of_mem_zip hv).1, if_pos hk];simp
  | p :: P, w :: vs, i + 1, m, nd, h1, h2, hk => by
    show bindL kindOf ((p, w) :: P.zip vs) m x = _
    unfold bindL;exact z4l (i := i) (List.nodup_cons.mp nd).2 (by simpa using h1) (by simpa using h2) hk
theorem z4b {kindOf : Str → Option NameKind} {x : Str} {v : Value} : ∀ {P : List Str} {vs : List Value} {i : Nat} {m : Str → Option Value}, P.Nodup → P[i]? = some x → vs[i]? = some v → kindOf x ≠ some .local →
    bindC kindOf (P.zip vs) m x = some v
  | [], _, _, _, _, h, _, _ => by simp at h
  | _ :: _, [], _, _, _, _, h, _ => by simp at h
  | p :: P, w :: vs, 0, m, nd, h1, h2, hk => by
    simp at h1 h2; subst h1; subst h2
    show bindC kindOf ((p, w) :: P.zip vs) m p = _
    unfold bindC;rw [z4t fun v hv => (List.nodup_cons.mp nd).1 (List.of_mem_zip hv).1, if_neg hk];simp
  | p :: P, w :: vs, i + 1, m, nd, h1, h2, hk => by
    show bindC kindOf ((p, w) :: P.zip vs) m x = _
    unfold bindC;exact z4b (i := i) (List.nodup_cons.mp nd).2 (by simpa using h1) (by simpa using h2) hk
def start (N : List Str) (vs : List V) : St := vs.map some ++ List.replicate (N.length - vs.length) none
def z25 (CX : CXT) (P : Program) (w : World) (K : PySem.W.Frag) (mg : Str → Option Value) (base : Heap) (N : List Str) (qual : Str) (scope : Scope) (f : Addr) (cd : Value) (A : Around) (outer : List Env) (s : Shared) (H : Hp) (E : XK) : Cx where
  prog := P
  w := w
  K := K
  mg := mg
  base := base
  A := A.deeper (envOfC qual scope s.heap.objs.size f cd)
  N := N
  s₀ := s
  H₀ := H
  env := envOfC qual scope s.heap.objs.size f cd
  outer := outer
  stack := envOfC qual scope s.heap.objs.size f cd :: outer
  ex := []
  calm := true
  fn := fun _ => true
  pn := []
  xe := fun e s' => wpAny (model P w) (A.deeper (envOfC qual scope s.heap.objs.size f cd)) (leaving (envOfC qual scope s.heap.objs.size f cd) e) (fun _ s'' => CX outer H s E e s'') (fun e' s'' => CX outer H s E e' s'') s'
theorem z5i {sc : Scope} {n : Nat} {x : Str} (h : sc.names.lookup x = some .cell) : ∃ c, (cellsFrom n sc.names []).lookup x = some c := by
  have q := PySem.W.cellsFrom_some sc.names n [] (.inl h);exact Option.isSome_iff_exists.mp q
theorem z7E {CX : CXT} {P : Program} {w : World} {K : PySem.W.Frag} {mg : Str → Option Value} {base : Heap} {N ps : List Str} {qual : Str} {scope : Scope} {f : Addr} {cd : Value} {A : Around} {outer : List Env} {s s1 : Shared} {H : Hp} {E : XK} {us : List Value} {vs : List V}
    (S : FnScope N ps scope) (hd : A.handled = none) (e0 : Env0 P w K mg base A outer s H) (hl : vs.length = ps.length) (r : jb vs us)
    (x : InCallC s s.heap.objs.size (bindL (envOfC qual scope s.heap.objs.size f cd).kindOf (ps.zip us) fun _ => none) (cellsFrom (s.heap.objs.size + 1) scope.names []) (bindC (envOfC qual scope s.heap.objs.size f cd).kindOf (ps.zip us) fun _ => none) s1) :
    Inv (z25 CX P w K mg base N qual scope f cd A outer s H E) [] (start N vs) H s1 := by
  have hpl : ps.length ≤ N.length := by have := congrArg List.length S.pre; rw [List.length_take] at this; omega
  obtain ⟨h1, tk, rfl, hk⟩ := x.done;have noA : ∀ b : Addr, b ∉ (z25 CX P w K mg base N qual scope f cd A outer s H E).ex := fun b z => absurd (show b ∈ ([] : List Addr) from z) (by simp)
  refine ⟨⟨e0.mod, S.kind, rfl, rfl, Nat.le_refl _, fun y z c h1 h2 => ?_, fun y hy => ?_, fun y c _ h => ?_, fun _ => hd, Around.frames_deeper e0.frames, .inr ⟨rfl, rfl⟩, fun b z => absurd z (noA b), e0.bs, e0.bsz, fun b _ _ => noA b, fun b z => absurd z (noA b), e0.funs, e0.frf⟩,
    rfl, e0.bare, Un.kept hk, ⟨_, x.toInCall.ns, fun i y v h1 h2 h3 => ?_⟩, fun y c h => ⟨_, x.cell y c h⟩, e0.hok.fresh (Nat.le_refl _), fun y c h => ?_, fun p hp => absurd (show p ∈ ([] : List (Addr × Obj)) from hp) (by simp), e0.hok.kept hk, ?_⟩
  · exact name_of_addr x.apart (PySem.mem_of_lookup h1) (PySem.mem_of_lookup h2)
  · have hy : scope.names.lookup y = some .cell ∨ scope.names.lookup y = some .free := hy;rcases hy with hy | hy
    · exact z5i hy
    · exact absurd rfl (S.nofree _ (PySem.mem_of_lookup hy))
  · exact Nat.le_of_lt (x.above y c (PySem.mem_of_lookup h))
  · have hi : i < vs.length := by
      unfold start at h2;by_cases hi : i < vs.length
      · exact hi
      · rw [List.getElem?_append_right (by simpa using hi)] at h2;rw [List.getElem?_replicate] at h2;split at h2 <;> cases h2
    have ha : vs[i]? = some v := by
      unfold start at h2;rw [List.getElem?_append_left (by simpa using hi), List.getElem?_map] at h2;cases e : vs[i]? with
      | none => rw [e] at h2; cases h2
      | some a => rw [e] at h2; cases h2; rfl
    obtain ⟨u, hu, rv⟩ := r.get ha;have hp : ps[i]? = some y := by
      rw [← S.pre, List.getElem?_take_of_lt (by omega)]; exact h1
    have ndP : ps.Nodup := by rw [← S.pre]; exact S.nd.sublist (List.take_sublist _ _)
    refine ⟨u, rv, ?_⟩;rcases S.par y (List.mem_of_getElem? hp) with k | k
    · exact .inl ⟨k, z4l ndP hp hu k⟩
    · obtain ⟨c, e⟩ := z5i (n := s.heap.objs.size + 1) k;refine .inr ⟨.inl k, c, e, ?_⟩;have q := x.cell y c e;rw [z4b ndP hp hu (by show scope.names.lookup y ≠ _; rw [k]; decide)] at q;exact q
  · exact e0.hok.fresh (Nat.le_of_lt (x.above y c (PySem.mem_of_lookup h)))
  · unfold start
    show _ = N.length
    rw [List.length_append, List.length_map, List.length_replicate];omega
theorem zai {CX : CXT} {P : Program} {w : World} {K : PySem.W.Frag} {mg : Str → Option Value} {base : Heap} {k : Nat} {f : Addr} {name qual : Str} {params : Arguments} {body : List Stmt} {scope : Scope} {dV kV doc pm cdv ct oc : Value} {an od : Option Addr}
    {osl : Array (Option Value)} {N ps : List Str} {sp : Sp} (lk : K.lookup f = some ⟨oc, od, .func (PySem.W.fnOf name qual params body scope dV kV doc pm an cdv ct), osl⟩) (hcd : PySem.W.codeIn K cdv qual = true) (S : FnScope N ps scope)
    (len : ∀ vs H Q E, sp vs H Q E → vs.length = ps.length)
    (hbody : ∀ (A : Around) (outer : List Env) (s : Shared) (H : Hp) (vs : List V) (Q : VK) (E : XK), Room k (A.deeper (envOfC qual scope s.heap.objs.size f cdv)) → sp vs H Q E →
      ∃ t, PSs (z25 CX P w K mg base N qual scope f cdv A outer s H E) body t ∧ t { nx := fun _ H' => Q .non H', rt := Q } (start N vs) H) :
    FnOk P w K mg base CX (k + 1) f (PySem.W.fnOf name qual params body scope dV kV doc pm an cdv ct) ps sp := by
  refine ⟨len, fun A outer s H args us vs Q E hr e0 hb r hsp => ?_⟩;have hl := len _ _ _ _ hsp;have KX : K.In s.heap := e0.mod.kin.keeps fun b o e => (e0.bs b o e).1
  have lim : s.heap.NoLimit := e0.mod.nolimit.keeps fun b o e => (e0.bs b o e).1
  have hkind : ∀ y ∈ ps.zip us, scope.names.lookup y.1 = some .local ∨ (scope.names.lookup y.1 = some .cell ∧ ((cellsFrom (s.heap.objs.size + 1) scope.names []).lookup y.1).isSome = true) := fun ⟨n, v⟩ hy => by
    rcases S.par n (List.of_mem_zip hy).1 with q | q
    · exact .inl q
    · exact .inr ⟨q, PySem.W.cellsFrom_some _ _ _ (.inl q)⟩
  refine codeAny_call_function hr.depth (KX _ _ lk) rfl S.co S.gen rfl (PySem.W.codeRec_of KX hcd) (hb _ _ _ _ ?_);refine wpAny_newFunctionEnv_cells S.kind hkind fun env he s1 x => ?_
  subst he;refine ⟨lim.keeps x.toInCall.keep, codeAny_func ?_⟩;obtain ⟨t, ht, hq⟩ := hbody A outer s H vs Q E (hr.deeper _) hsp;have I : Inv (z25 CX P w K mg base N qual scope f cdv A outer s H E) [] (start N vs) H s1 := z7E S hr.hd e0 hl r x;refine wpAny_mono (ht [] s1 (start N vs) H _ I hq) (fun fl s' hs => ?_) fun e s' hs => hs
  have fin : ∀ {σ' : St} {H' : Hp} {v : V} {u : Value}, Inv (z25 CX P w K mg base N qual scope f cdv A outer s H E) [] σ' H' s' → RelV v u → Q v H' → CE outer P w H s Q u s' :=
    fun {σ' H' v u} J rv q => ⟨v, H', J.os, J.bare, J.base, J.hok, rv, q⟩
  cases fl with
  | ret u =>
    obtain ⟨v, σ', H', J, rv, q⟩ := hs;exact fin J rv q
  | next =>
    obtain ⟨σ', H', J, q⟩ := hs;exact fin (v := V.non) (u := Value.none) J rfl q
  | brk =>
    obtain ⟨_, _, _, q⟩ := hs;exact False.elim q
  | cont =>
    obtain ⟨_, _, _, q⟩ := hs;exact False.elim q
end L2
namespace L2
open PySem PySem.Spec PyProof.Rows
section
variable {X : Cx} {x : Str} {p pos : Pos} {e : Expr} {es : List Expr} {t : TA} {id T : String} {r : List V → Hp → VK → Prop}
def tCB (r : List V → Hp → VK → Prop) (t : TA) : TE := fun σ H Q => t σ H fun vs H1 => r vs H1 Q
theorem zI (hc : z03 X (.builtin id) r) (hg : Gl X x) (hm : X.mg x = none) (hv : bootBuiltins x = some (.builtin id)) (ha : PA X (e :: es) t) (hn : x ≠ "__name__" := by decide) (hdb : (x == ("__debug__" : Str)) = false := by decide)
    (he : starEach (e :: es) X.env = (false, eval e X.env) :: starEach es X.env := by rfl) (hpl : (backTo pos (starEach es X.env)).any (·.1) = false := by rfl) : PE X (.Call (.Name x p) (e :: es) [] pos) (tCB r t) := by
  intro pins s σ H Q I h;refine wpAny_Call_Name_kw (z2p I hg hm hv ?_ hn hdb);exact PyProof.Rows.callWith_builtin1 (thn (ha pos pins s σ H _ I h) fun us s1 ⟨vs, H1, I1, r1, q1⟩ => hc pins s1 σ H1 vs us Q I1 r1 q1) he hpl
theorem yl (hc : z03 X (.type T) r) (hg : Gl X x) (hm : X.mg x = none) (hv : bootBuiltins x = some (.type T)) (ha : PA X (e :: es) t) (hn : x ≠ "__name__" := by decide) (hdb : (x == ("__debug__" : Str)) = false := by decide)
    (he : starEach (e :: es) X.env = (false, eval e X.env) :: starEach es X.env := by rfl) (hpl : (backTo pos (starEach es X.env)).any (·.1) = false := by rfl) : PE X (.Call (.Name x p) (e :: es) [] pos) (tCB r t) := by
  intro pins s σ H Q I h;refine wpAny_Call_Name_kw (z2p I hg hm hv ?_ hn hdb);exact PyProof.Rows.callWith_type1 (thn (ha pos pins s σ H _ I h) fun us s1 ⟨vs, H1, I1, r1, q1⟩ => hc pins s1 σ H1 vs us Q I1 r1 q1) he hpl
end
end L2
namespace HT
open PySem PyProof.Rows
section
open PySem.SeqAt
open PySem.AutoSeq1 (wpAny_loadPart')
open PySem.MeetsSeq PySem.MeetsSeq2 PySem.MeetsSeq3
end
section
variable {prog : Program} {w : World} {A : Around} {E : Value → Shared → Prop} {s : Shared}
theorem cat_tup {t b : Addr} {vs ws : List Value} {Q : Value → Shared → Prop} (ht : IsTup s.heap t vs.toArray) (hb : IsTup s.heap b ws.toArray) (hv : vs ≠ [])
    (h1 : ws = [] → Q (.ref t) s) (h2 : ws ≠ [] → Q (.ref s.heap.objs.size) { s with heap := s.heap.push { cls := .type "tuple", data := .seq (vs ++ ws).toArray } })
    (hsz : vs.length + ws.length ≤ sizeLine) : wpAny (model prog w) A (binaryOp .Add (.ref t) (.ref b)) Q E s := by
  obtain ⟨⟨cls, dd, data, sl⟩, ho, hc, n, hd⟩ := id ht;obtain ⟨⟨cls2, dd2, data2, sl2⟩, ho2, hc2, n2, hd2⟩ := id hb;simp only at hc hd hc2 hd2;subst hc hd hc2 hd2;have e : vs.toArray ++ ws.toArray = (vs ++ ws).toArray := by simp
  by_cases hw : ws = []
  · exact concat_meets ⟨_, ho, rfl⟩ ⟨_, ho2, rfl⟩ noFill_tuple_add seq_tuple_add PySem.F.slot_tuple_add PySem.F.entry_tuple_add (PySem.F.args_tuple_add_2 _ _)
      (tuple_addW1 t b vs.toArray ws.toArray n n2 dd dd2 sl sl2 (by simpa using hv) (by simp [hw])) ⟨ho, ho2, h1 hw⟩
  · refine concat_meets ⟨_, ho, rfl⟩ ⟨_, ho2, rfl⟩ noFill_tuple_add seq_tuple_add PySem.F.slot_tuple_add PySem.F.entry_tuple_add (PySem.F.args_tuple_add_2 _ _)
      (tuple_addW2 t b vs.toArray ws.toArray n n2 dd dd2 sl sl2 (by simpa using hv) (by simpa using hw) (by rw [List.size_toArray, List.size_toArray]; exact hsz)) ⟨ho, ho2, ?_⟩
    rw [e];exact h2 hw
def sIx (n d : Nat) : Option Int → Nat
  | none => d
  | some v => if v < 0 then (v + (n : Int)).toNat else min v.toNat n
theorem sIx_none (n d : Nat) : sIx n d none = d := rfl
theorem zb2 (n d : Nat) (hd : d ≤ n) (o : Option Int) : sIx n d o ≤ n := by
  cases o with
  | none => exact hd
  | some v =>
    show (if v < 0 then (v + (n : Int)).toNat else min v.toNat n) ≤ n
    by_cases hv : v < 0
    · rw [if_pos hv]; omega
    · rw [if_neg hv]; exact Nat.min_le_right _ _
theorem z7n (v : Int) (n d : Nat) : (if v < 0 then max (v + (n : Int)) 0 else min v (n : Int)) = ((sIx n d (some v) : Nat) : Int) := by
  show (if v < 0 then max (v + (n : Int)) 0 else min v (n : Int)) = (((if v < 0 then (v + (n : Int)).toNat else min v.toNat n) : Nat) : Int)
  by_cases hv : v < 0
  · simp only [if_pos hv]; omega
  · simp only [if_neg hv]; omega
theorem z6A (lo hi : Option Int) (n : Nat) : Builtin.Slice.sliceAdjust lo hi 1 (n : Int) = (((sIx n 0 lo : Nat) : Int), ((sIx n n hi : Nat) : Int)) := by
  have h1 : ¬ ((1 : Int) < 0) := by omega
  unfold Builtin.Slice.sliceAdjust;simp only [h1, if_false];refine Prod.ext ?_ ?_
  · cases lo with
    | none => rfl
    | some v => exact z7n v n 0
  · cases hi with
    | none => rfl
    | some v => exact z7n v n n
theorem z6l (i j : Nat) : Builtin.Slice.slicePlaces (i : Int) (j : Int) 1 = j - i := by
  unfold Builtin.Slice.slicePlaces;have h1 : (1 : Int) > 0 := by omega
  simp only [h1, if_true, Int.ediv_one];split <;> omega
theorem z33 {v : Value} {o : Option Int} {Q : Option Int → Shared → Prop} (p : IsPart v o) (h : Q o s) : wpAny (model prog w) A (Builtin.Slice.slicePartIndex v) Q E s := by
  cases p with
  | none => exact slicePart_none h
  | int i t => exact slicePart_int h
theorem z2v {sl : Addr} {vl vu : Value} {lo hi : Option Int} {n : Nat} {Q : Int × Int × Nat → Shared → Prop} (hs : s.heap.IsSliceOf sl vl vu .none) (pl : IsPart vl lo) (pu : IsPart vu hi)
    (h : Q (((sIx n 0 lo : Nat) : Int), 1, sIx n n hi - sIx n 0 lo) s) : wpAny (model prog w) A (Builtin.Slice.sliceApplied (.ref sl) (pure (n : Int))) Q E s := by
  obtain ⟨os, hos, hcs, hds⟩ := id hs;unfold Builtin.Slice.sliceApplied Builtin.Slice.sliceFields;refine wpAny_bind (wpAny_bind (wpAny_field hos hds (x := vl) rfl (wpAny_bind (wpAny_field hos hds (x := vu) rfl (wpAny_bind (wpAny_field hos hds (x := .none) rfl (wpAny_pure ?_)))))));refine wpAny_bind (slicePart_none ?_)
  show wpAny _ _ (if ((1 : Int) == 0) = true then _ else _) _ _ s
  rw [if_neg (by decide)];refine wpAny_bind (z33 pl (wpAny_bind (z33 pu (wpAny_bind (wpAny_pure ?_)))))
  show wpAny _ _ (match Builtin.Slice.sliceAdjust lo hi 1 (n : Int) with | (lo, hi) => pure (lo, (1 : Int), Builtin.Slice.slicePlaces lo hi 1)) _ _ s
  rw [z6A lo hi n]
  show wpAny _ _ (pure (((sIx n 0 lo : Nat) : Int), (1 : Int), Builtin.Slice.slicePlaces ((sIx n 0 lo : Nat) : Int) ((sIx n n hi : Nat) : Int) 1)) _ _ s
  rw [z6l];exact wpAny_pure h
theorem z8I (xs : Array Value) (i k : Nat) : ((List.range k).filterMap fun (m : Nat) => xs[((i : Int) + (m : Int) * 1).toNat]?).toArray = ((xs.toList.drop i).take k).toArray := by
  have e : (fun (m : Nat) => xs[((i : Int) + (m : Int) * 1).toNat]?) = fun m => xs[i + m]? := by
    funext m
    have : ((i : Int) + (m : Int) * 1).toNat = i + m := by omega
    rw [this]
  rw [e];have := pick_run xs i k;rw [List.filterMap_map] at this;have e2 : ((fun x => xs[x]?) ∘ fun x => i + x) = fun m => xs[i + m]? := rfl
  rw [e2] at this;rw [this]
theorem getItem_tuple_cut {t sl : Addr} {items : Array Value} {vl vu : Value} {lo hi : Option Int} {Q : Value → Shared → Prop} (ht : IsTup s.heap t items) (hs : s.heap.IsSliceOf sl vl vu .none) (pl : IsPart vl lo) (pu : IsPart vu hi)
    (hw : ¬ (sIx items.size 0 lo = 0 ∧ sIx items.size items.size hi = items.size))
    (h : Q (.ref s.heap.objs.size) { s with heap := s.heap.push { cls := .type "tuple", data := .seq ((items.toList.drop (sIx items.size 0 lo)).take (sIx items.size items.size hi - sIx items.size 0 lo)).toArray } })
    (hsz : items.size ≤ sizeLine) : wpAny (model prog w) A (getItem (.ref t) (.ref sl)) Q E s := by
  have htake : sizeOk (.seq ((items.toList.drop (sIx items.size 0 lo)).take (sIx items.size items.size hi - sIx items.size 0 lo)).toArray) := by
    show ((items.toList.drop (sIx items.size 0 lo)).take (sIx items.size items.size hi - sIx items.size 0 lo)).toArray.size ≤ sizeLine
    rw [List.size_toArray, List.length_take, List.length_drop, Array.length_toList];omega
  have hj : sIx items.size items.size hi ≤ items.size := zb2 _ _ (Nat.le_refl _) hi;obtain ⟨os, hos, hcs, hds⟩ := id hs;have hTs : s.TypeIs (.ref sl) "slice" := ⟨os, hos, hcs⟩;unfold getItem
  try with_reducible refine wpAny_holding ?_
  first | refine wpAny_bind (wpAny_pure ?_) | skip
  refine wpAny_bind (wpAny_sequenceKey ht.typeIs (by decide) ?_);refine wpAny_bind (wpAny_callSpecial?_slot (name := Str.ofString "__getitem__") ht.typeIs PyProof.Rows.slot_tuple_getitem
    (wpAny_call_entry PyProof.Rows.slot_tuple_getitem ht.typeIs entry_tuple_getitem ?_ (args_tuple_getitem _ _)))
  show wpAny _ _ (Builtin.Tuple.tupleItemsOf (.ref t) >>= _) _ _ s
  refine wpAny_bind (tupleItemsOf_ ht ?_);refine wpAny_bind (wpAny_typeOf hTs ?_);rw [if_pos (by decide)];refine wpAny_bind (z2v hs pl pu ?_);have hno : ¬ ((((sIx items.size 0 lo : Nat) : Int) == 0 && (1 : Int) == 1 && (sIx items.size items.size hi - sIx items.size 0 lo) == items.size) = true) := by
    intro q;rw [Bool.and_eq_true, Bool.and_eq_true] at q;have q1 : ((sIx items.size 0 lo : Nat) : Int) = 0 := eq_of_beq q.1.1;have q2 : sIx items.size items.size hi - sIx items.size 0 lo = items.size := eq_of_beq q.2;exact hw ⟨by omega, by omega⟩
  show wpAny _ _ (if (((sIx items.size 0 lo : Nat) : Int) == 0 && (1 : Int) == 1 && (sIx items.size items.size hi - sIx items.size 0 lo) == items.size) = true then _ else _) _ _ s
  rw [if_neg hno, z8I]
  first
    | exact wpAny_bind (m := Builtin.Tuple.tupleExact _) (wpAny_newObj_type (wpAny_pure ⟨_, rfl, wpAny_pure h⟩) htake)
    | exact wpAny_bind (m := Builtin.Tuple.tupleExact _) (wpAny_newObj_type (wpAny_bind (wpAny_pure (wpAny_pure ⟨_, rfl, wpAny_pure h⟩))) htake)
    | exact wpAny_bind (wpAny_bind (m := Builtin.Tuple.tupleExact _) (wpAny_newObj_type (wpAny_pure (wpAny_pure ⟨_, rfl, wpAny_pure h⟩)) htake))
    | exact wpAny_bind (wpAny_bind (m := Builtin.Tuple.tupleExact _) (wpAny_newObj_type (wpAny_pure ⟨_, rfl, wpAny_pure h⟩) htake))
end
end HT
namespace L2
open PySem PySem.Spec PyProof.Rows
abbrev TO := St → Hp → (Option Int → Hp → Prop) → Prop
def PO (X : Cx) (e : Option Expr) (t : TO) : Prop :=
  ∀ (pins : List (Addr × Obj)) (s : Shared) (σ : St) (H : Hp) (Q : Option Int → Hp → Prop), Inv X pins σ H s → t σ H Q →
    wpAny (model X.prog X.w) X.A (evalPart e X.env) (fun u s' => ∃ o H', Inv X pins σ H' s' ∧ IsPart u o ∧ Q o H') X.xe s
def z9B : TO := fun _ H Q => Q none H
def zbg (t : TE) : TO := fun σ H Q => t σ H fun x H1 => ∃ i, x = .int i ∧ Q (some i) H1
theorem intsAre_of {ns : List Int} : ∀ {us : List Value}, jb (ns.map V.int) us → IntsAre us ns := by
  induction ns with
  | nil => intro us r; rw [List.map_nil] at r; cases r; exact .nil
  | cons n ns ih =>
    intro us r;rw [List.map_cons] at r;cases r with
    | cons r1 r2 =>
      obtain ⟨t, e⟩ := r1;subst e;exact .cons n t (ih r2)
section
variable {X : Cx} {e : Expr} {te : TE} {lo hi : Option Expr} {tl th : TO} {pos p2 : Pos}
theorem jF : PO X none z9B := by
  intro pins s σ H Q I h;rw [evalPart_none];exact wpAny_pure ⟨none, H, I, .none, h⟩
theorem jq (h : PE X e te) : PO X (some e) (zbg te) := by
  intro pins s σ H Q I hw;rw [evalPart_some];refine thn (h pins s σ H _ I hw) fun u s1 ⟨x, H1, I1, r1, q1⟩ => ?_
  obtain ⟨i, rfl, q⟩ := q1;obtain ⟨t, rfl⟩ := r1;exact ⟨some i, H1, I1, .int i t, q⟩
def SlR (X : Cx) (r : V → Option Int → Option Int → Hp → VK → Prop) : Prop :=
  ∀ (pins : List (Addr × Obj)) (s : Shared) (σ : St) (H : Hp) (x : V) (v vl vu : Value) (lo hi : Option Int) (sl : Addr) (Q : VK), Inv X pins σ H s → RelV x v → s.heap.IsSliceOf sl vl vu .none → IsPart vl lo → IsPart vu hi → r x lo hi H Q →
    ∃ T id, typeLookup (.type T) "__getitem__" = pure (some (.builtin id)) ∧ s.TypeIs v T ∧ wpAny (model X.prog X.w) X.A (getItem v (.ref sl)) (EP X pins σ Q) X.xe s
def tSl (r : V → Option Int → Option Int → Hp → VK → Prop) (te : TE) (tl th : TO) : TE := fun σ H Q => te σ H fun x H1 => tl σ H1 fun l H2 => th σ H2 fun u H3 => r x l u H3 Q
theorem jh {r : V → Option Int → Option Int → Hp → VK → Prop} (hr : SlR X r) (he : PE X e te) (hl : PO X lo tl) (hu : PO X hi th) : PE X (.Subscript e (.Slice lo hi none p2) pos) (tSl r te tl th) := by
  intro pins s σ H Q I h;refine Subscript_ (thn (he pins s σ H _ I h) fun v s1 ⟨x, H1, I1, r1, q1⟩ => ?_);refine wpAny_Slice (thn (hl pins s1 σ H1 _ I1 q1) fun vl s2 ⟨l, H2, I2, pl, q2⟩ => thn (hu pins s2 σ H2 _ I2 q2) fun vu s3 ⟨u, H3, I3, pu, q3⟩ => ?_);rw [evalPart_none];refine wpAny_pure ?_;have I4 : Inv X pins σ H3 { s3 with heap := s3.heap.push { cls := .type "slice", data := .fields #[vl, vu, .none] } } := I3.kept (t' := s3.toks) fun b ob q => Heap.get?_push_of_some _ q
  obtain ⟨T, id, hT, ht, hg⟩ := hr pins { s3 with heap := s3.heap.push { cls := .type "slice", data := .fields #[vl, vu, .none] } } σ H3 x v vl vu l u s3.heap.objs.size Q I4 r1 (Heap.IsSliceOf.new ..) pl pu q3
  show wpAny (model X.prog X.w) X.A (subscriptTail e (.Slice lo hi none p2) v (.ref s3.heap.objs.size)) (EP X pins σ Q) X.xe { s3 with heap := s3.heap.push { cls := .type "slice", data := .fields #[vl, vu, .none] } }
  exact tail_any (ops := [.ref s3.heap.objs.size, v]) ht hT hg (by with_unfolding_all rfl)
def z1C (xs : List V) (lo hi : Option Int) : List V := (xs.drop (HT.sIx xs.length 0 lo)).take (HT.sIx xs.length xs.length hi - HT.sIx xs.length 0 lo)
theorem z2A (xs : List V) (lo hi : Option Int) : (z1C xs lo hi).length ≤ xs.length := by
  unfold z1C;rw [List.length_take, List.length_drop];omega
def zbW (K : PySem.W.Frag) : V → Option Int → Option Int → Hp → VK → Prop := fun x lo hi H Q => ∃ a xs, x = .ref a ∧ SqT K H a xs ∧
  ¬ (HT.sIx xs.length 0 lo = 0 ∧ HT.sIx xs.length xs.length hi = xs.length) ∧ ∀ p, H p = none → Q (.ref p) (upd H p (.tup (z1C xs lo hi)))
theorem z6z : SlR X (zbW X.K) := by
  intro pins s σ H x v vl vu lo hi sl Q I rx hs pl pu h;obtain ⟨a, xs, rfl, hx, hw, q⟩ := h;cases rx;obtain ⟨its, r, ht, hz⟩ := I.tuple hx;have hlen : its.toArray.size = xs.length := by rw [List.size_toArray]; exact r.length.symm
  refine ⟨"tuple", _, PyProof.Rows.slot_tuple_getitem.lookup, ht.typeIs, ?_⟩;refine HT.getItem_tuple_cut ht hs pl pu (by rw [hlen]; exact hw) ?_ (by rw [hlen]; exact hz);rw [hlen];refine ⟨.ref s.heap.objs.size, _, I.laid (t' := s.toks) (o := .tup (z1C xs lo hi)) (fun b ob q => Heap.get?_push_of_some _ q) (Nat.le_refl _) ?_, rfl, q _ (I.hok.fresh (Nat.le_refl _))⟩;exact ⟨Nat.le_trans (z2A xs lo hi) hz, _, (r.drop (HT.sIx xs.length 0 lo)).take (HT.sIx xs.length xs.length hi - HT.sIx xs.length 0 lo), IsTup.new _ _⟩
def zbH (K : PySem.W.Frag) : R2 := fun x y H Q => ∃ a b xs ys, x = .ref a ∧ y = .ref b ∧ SqT K H a xs ∧ SqT K H b ys ∧ xs ≠ [] ∧ xs.length + ys.length ≤ sizeLine ∧
  (ys = [] → Q (.ref a) H) ∧ (ys ≠ [] → ∀ p, H p = none → Q (.ref p) (upd H p (.tup (xs ++ ys))))
theorem jb.nil_iff {xs : List V} {us : List Value} (r : jb xs us) : us = [] ↔ xs = [] := by
  cases r with
  | nil => simp
  | cons _ _ => simp
theorem z9h : OpR X (binaryOp .Add) (zbH X.K) := by
  intro pins s σ H x y v u Q I rx ry h;obtain ⟨a, b, xs, ys, rfl, rfl, ha, hb, hx, hz, q1, q2⟩ := h;cases rx;cases ry;obtain ⟨its, r1, p1, _⟩ := I.tuple ha;obtain ⟨its2, r2, p2, _⟩ := I.tuple hb;refine HT.cat_tup p1 p2 (fun z => hx (r1.nil_iff.mp z)) (fun z => ⟨.ref a, H, I, rfl, q1 (r2.nil_iff.mp z)⟩) (fun z => ?_) (by rw [← r1.length, ← r2.length]; exact hz);refine ⟨.ref s.heap.objs.size, _, I.laid (t' := s.toks) (o := .tup (xs ++ ys)) (fun b ob q => Heap.get?_push_of_some _ q) (Nat.le_refl _) ?_, rfl, q2 (fun w => z (r2.nil_iff.mpr w)) _ (I.hok.fresh (Nat.le_refl _))⟩;exact ⟨by rw [List.length_append]; exact hz, _, r1.append r2, IsTup.new _ _⟩
end
end L2
namespace L2
open PySem PySem.Spec PyProof.Rows
def ixN (n : Nat) (i : Int) : Option Nat := if 0 ≤ i then (if i < n then some i.toNat else none) else if -(n : Int) ≤ i then some (i + n).toNat else none
def atI {α : Type} (xs : List α) (i : Int) : Option α := (ixN xs.length i).bind fun j => xs[j]?
theorem z7c {n : Nat} {i : Int} {j : Nat} (h : ixN n i = some j) : seqIndex? i n = some j ∧ j < n ∧ -(n : Int) ≤ i ∧ i < n := by
  unfold ixN at h;by_cases h0 : 0 ≤ i
  · rw [if_pos h0] at h;by_cases h1 : i < n
    · rw [if_pos h1] at h;have e : i.toNat = j := Option.some.inj h;exact ⟨by rw [seqIndex_of h0 h1, e], by omega, by omega, h1⟩
    · rw [if_neg h1] at h; cases h
  · rw [if_neg h0] at h;by_cases h1 : -(n : Int) ≤ i
    · rw [if_pos h1] at h;have e : (i + n).toNat = j := Option.some.inj h;exact ⟨by rw [seqIndex_neg (by omega) h1, e], by omega, h1, by omega⟩
    · rw [if_neg h1] at h; cases h
theorem z4G {α : Type} {xs : List α} {i : Int} {v : α} (h : atI xs i = some v) : ∃ j, seqIndex? i xs.length = some j ∧ xs[j]? = some v ∧ j < xs.length ∧ -(xs.length : Int) ≤ i ∧ i < xs.length := by
  unfold atI at h;cases e : ixN xs.length i with
  | none => rw [e] at h; cases h
  | some j =>
    rw [e] at h;obtain ⟨h1, h2, h3, h4⟩ := z7c e;exact ⟨j, h1, h, h2, h3, h4⟩
theorem jr {α : Type} {xs : List α} {j : Nat} {v : α} (h : xs[j]? = some v) : atI xs (j : Int) = some v := by
  have hj : j < xs.length := (List.getElem?_eq_some_iff.mp h).1;have e : ixN xs.length (j : Int) = some j := by
    unfold ixN;rw [if_pos (by omega), if_pos (by omega)]; simp
  unfold atI; rw [e]; exact h
theorem z3M {α : Type} (xs : List α) (v : α) : atI (xs ++ [v]) (-1) = some v := by
  have hl : (xs ++ [v]).length = xs.length + 1 := by simp
  have e : ixN (xs ++ [v]).length (-1) = some xs.length := by
    unfold ixN;rw [hl, if_neg (by decide), if_pos (by omega)]
    congr 1
    omega
  unfold atI;rw [e]
  show (xs ++ [v])[xs.length]? = some v
  simp
def z9C (b : Expr) : Prop := ∀ o i, subscripted b false o i = operate [o, i] (getItem o i)
def IxR (X : Cx) (r : R2) : Prop :=
  ∀ (value slice : Expr) (pins : List (Addr × Obj)) (s : Shared) (σ : St) (H : Hp) (x y : V) (v u : Value) (Q : VK), Inv X pins σ H s → RelV x v → RelV y u → r x y H Q →
    subscripted slice false v u = operate [v, u] (getItem v u) → wpAny (model X.prog X.w) X.A (subscriptTail value slice v u) (EP X pins σ Q) X.xe s
def MtR (X : Cx) (id : String) (r : V → List V → Hp → VK → Prop) : Prop :=
  ∀ (pins : List (Addr × Obj)) (s : Shared) (σ : St) (H : Hp) (x : V) (xs : List V) (v : Value) (us : List Value) (Q : VK), Inv X pins σ H s → RelV x v → jb xs us → r x xs H Q →
    wpAny (model X.prog X.w) X.A (call (.builtin id) (v :: us)) (EP X pins σ Q) X.xe s
section
variable {X : Cx} {a b : Expr} {ta tb : TE} {pos : Pos}
theorem zw {r : R2} (hr : IxR X r) (ha : PE X a ta) (hb : PE X b tb) (hs : z9C b) : PE X (.Subscript a b pos) (tOp r ta tb) := by
  intro pins s σ H Q I h;exact Subscript_ (zb8 ha hb I h fun v u s2 x y H2 I2 rx ry q => hr a b pins s2 σ H2 x y v u Q I2 rx ry q (hs _ _))
def zbR (K : PySem.W.Frag) : R2 := fun x y H Q => ∃ p xs i v, x = .ref p ∧ y = .int i ∧ SqL K H p xs ∧ atI xs i = some v ∧ Q v H
def zby (K : PySem.W.Frag) : R2 := fun x y H Q => ∃ p xs i v, x = .ref p ∧ y = .int i ∧ SqT K H p xs ∧ atI xs i = some v ∧ Q v H
def zcp : R2 := fun x y H Q => ∃ z i c, x = .str z ∧ y = .int i ∧ z.length ≤ sizeLine ∧ atI z.cps.toList i = some c ∧ Q (.str ⟨#[c]⟩) H
theorem zT : IxR X (zbR X.K) := by
  intro value slice pins s σ H x y v u Q I rx ry h hs;obtain ⟨p, xs, i, z, rfl, rfl, hq, he, q⟩ := h;cases rx;obtain ⟨t, rfl⟩ := ry;obtain ⟨its, r, pl, hz⟩ := I.list hq;obtain ⟨j, h1, h2, h3, h4, h5⟩ := z4G he;obtain ⟨w, ew, rw'⟩ := r.get h2;have hl := r.length;have hn := z15;have fin : EP X pins σ Q w s := ⟨z, H, I, rw', q⟩;by_cases h0 : 0 ≤ i
  · have hj : i.toNat = j := by
      rw [seqIndex_of h0 h5] at h1;exact Option.some.inj h1
    exact item_listR pl.isList h0 (by omega) (by rw [hj]; simpa using ew) fin hs
  · have hj : (i + (its.toArray.size : Int)).toNat = j := by
      rw [seqIndex_neg (by omega) h4] at h1;rw [List.size_toArray, ← hl];exact Option.some.inj h1
    exact subscriptTail_builtinR (x := w) pl.isList.typeIs slot_list_getitem.lookup
      (wpAny_getItem_list_neg (Q := fun r s' => r = w ∧ EP X pins σ Q r s') pl.isList (by omega) (by rw [List.size_toArray] <;> omega) (by omega) (by rw [hj]; simpa using ew) ⟨rfl, fin⟩) hs
theorem zx : IxR X (zby X.K) := by
  intro value slice pins s σ H x y v u Q I rx ry h hs;obtain ⟨p, xs, i, z, rfl, rfl, hq, he, q⟩ := h;cases rx;obtain ⟨t, rfl⟩ := ry;obtain ⟨its, r, pl, hz⟩ := I.tuple hq;obtain ⟨j, h1, h2, h3, h4, h5⟩ := z4G he;obtain ⟨w, ew, rw'⟩ := r.get h2;have hl := r.length;have hn := z15;have fin : EP X pins σ Q w s := ⟨z, H, I, rw', q⟩;exact subscriptTail_builtinR (x := w) pl.typeIs slot_tuple_getitem.lookup
    (getItem_tuple (j := j) (Q := fun r s' => r = w ∧ EP X pins σ Q r s') pl (by omega) (by omega) (by rw [List.size_toArray, ← hl]; exact h1) (by simpa using ew) ⟨rfl, fin⟩) hs
theorem z8N : IxR X zcp := by
  intro value slice pins s σ H x y v u Q I rx ry h hs;obtain ⟨z, i, c, rfl, rfl, hz, he, q⟩ := h;obtain ⟨t, rfl⟩ := rx;obtain ⟨t', rfl⟩ := ry;obtain ⟨j, h1, h2, h3, h4, h5⟩ := z4G he;have hl : z.cps.toList.length = z.length := by simp [Str.length]
  rw [hl] at h1 h4 h5;have hn := z15;exact tail_any (typeIs_str s z t) slot_str_getitem.lookup (getItem_str (c := c) (by
    have e1 : decide (i < -(2 ^ 63 : Int)) = false := decide_eq_false (by omega);have e2 : decide (i ≥ 2 ^ 63) = false := decide_eq_false (by omega);rw [e1, e2, Bool.or_false]) (by rw [h1]; simpa using h2) ⟨.str ⟨#[c]⟩, H, I.tok _, ⟨_, rfl⟩, q⟩) hs
theorem z6i (its : List Value) (n j : Nat) (u : Value) : Obj.mapSeq (·.setIfInBounds j u) { cls := .type "list", data := .seq its.toArray n } = { cls := .type "list", data := .seq (its.set j u).toArray n } := by
  simp [Obj.mapSeq]
theorem Inv.lst {pins : List (Addr × Obj)} {σ : St} {H : Hp} {s : Shared} {p : Addr} {xs : List V} (I : Inv X pins σ H s) (h : H p = some (.lst xs)) :
    ∃ (its : List Value) (n : Nat), jb xs its ∧ s.heap.get? p = some { cls := .type "list", data := .seq its.toArray n } ∧ xs.length ≤ sizeLine := by
  obtain ⟨z, its, n, r, e⟩ := I.hok p _ h;exact ⟨its, n, r, e, z⟩
theorem Inv.lstUpd {pins : List (Addr × Obj)} {σ : St} {H : Hp} {s : Shared} {p : Addr} {xs ys : List V} {its its' : List Value} {n n' : Nat} {f : Obj → Obj} (I : Inv X pins σ H s) (h : H p = some (.lst xs))
    (ho : s.heap.get? p = some { cls := .type "list", data := .seq its.toArray n }) (hf : f { cls := .type "list", data := .seq its.toArray n } = { cls := .type "list", data := .seq its'.toArray n' }) (r : jb ys its') (hz : ys.length ≤ sizeLine) (t : Nat) :
    Inv X pins σ (upd H p (.lst ys)) { s with heap := s.heap.update p f, toks := t } := by
  have e : (s.heap.update p f).get? p = some { cls := .type "list", data := .seq its'.toArray n' } := by
    rw [Heap.get?_update_self f ho (by rw [hf] <;> rfl), hf]
  refine I.write (x := p) (e := p) (by rw [h]; trivial) (.inl rfl) (fun b u hb q => (Heap.get?_update_other _ _ (Ne.symm hb)).trans q) ⟨_, e⟩ ?_;exact ⟨hz, its', n', r, e⟩
def zbu : V → V → V → Hp → (Hp → Prop) → Prop := fun o i v H Q => ∃ p xs k j, o = .ref p ∧ i = .int k ∧ H p = some (.lst xs) ∧ ixN xs.length k = some j ∧ Q (upd H p (.lst (xs.set j v)))
theorem set_list : zbB X zbu := by
  intro pins s σ H o i v ov iv u Q I ro ri rv h;obtain ⟨p, xs, k, j, rfl, rfl, hp, hj, q⟩ := h;cases ro;obtain ⟨t, rfl⟩ := ri;obtain ⟨its, n, r, ho, hz⟩ := I.lst hp;obtain ⟨h1, h2, h3, h4⟩ := z7c hj;have hl := r.length;have hn := z15;have I' : Inv X pins σ (upd H p (.lst (xs.set j v))) { s with heap := s.heap.update p (Obj.mapSeq (·.setIfInBounds j u)) } :=
    I.lstUpd hp ho (z6i its n j u) (r.set rv j) (by rw [List.length_set]; exact hz) s.toks
  by_cases h0 : 0 ≤ k
  · have hk : k.toNat = j := by
      rw [seqIndex_of h0 h4] at h1;exact Option.some.inj h1
    exact PySem.W.ki_setAt ho h0 (by omega) (by rw [List.size_toArray, ← hl]; exact h4) (by rw [hk]; exact ⟨_, I', q⟩)
  · have hk : (k + (its.toArray.size : Int)).toNat = j := by
      rw [seqIndex_neg (by omega) h3] at h1;rw [List.size_toArray, ← hl];exact Option.some.inj h1
    exact PySem.W.ki_setBack ho (by omega) (by rw [List.size_toArray, ← hl]; exact h3) (by omega) (by rw [hk]; exact ⟨_, I', q⟩)
theorem z4R (lo hi : Option Int) (n : Nat) : (sliceBounds lo hi none n).1 = ((HT.sIx n 0 lo : Nat) : Int) ∧ (sliceBounds lo hi none n).2.1 = ((HT.sIx n n hi : Nat) : Int) ∧ (sliceBounds lo hi none n).2.2 = 1 := by
  refine ⟨?_, ?_, rfl⟩
  · cases lo with
    | none => simp [sliceBounds, HT.sIx]
    | some i =>
      simp only [sliceBounds, HT.sIx, Option.getD_none, show (1 : Int) > 0 by decide, if_true];by_cases h : i < 0
      · simp only [h, if_true] <;> omega
      · simp only [h, if_false] <;> omega
  · cases hi with
    | none => simp [sliceBounds, HT.sIx]
    | some i =>
      simp only [sliceBounds, HT.sIx, Option.getD_none, show (1 : Int) > 0 by decide, if_true];by_cases h : i < 0
      · simp only [h, if_true] <;> omega
      · simp only [h, if_false] <;> omega
theorem z3W (its : List Value) (lo hi : Option Int) : slicePick its.toArray lo hi none = ((its.drop (HT.sIx its.length 0 lo)).take (HT.sIx its.length its.length hi - HT.sIx its.length 0 lo)).toArray := by
  obtain ⟨h1, h2, h3⟩ := z4R lo hi its.toArray.size;unfold slicePick;rw [h1, h2, h3];simp only [sliceRange_one, pick_run, List.size_toArray] <;> rfl
def zcl (K : PySem.W.Frag) : V → Option Int → Option Int → Hp → VK → Prop := fun x lo hi H Q => ∃ a xs, x = .ref a ∧ SqL K H a xs ∧ ∀ p, H p = none → Q (.ref p) (upd H p (.lst (z1C xs lo hi)))
theorem yB : SlR X (zcl X.K) := by
  intro pins s σ H x v vl vu lo hi sl Q I rx hs pl pu h;obtain ⟨a, xs, rfl, hx, q⟩ := h;cases rx;obtain ⟨its, r, ht, hz⟩ := I.list hx;have hlen := r.length;refine ⟨"list", _, slot_list_getitem.lookup, ht.isList.typeIs, ?_⟩;refine wpAny_getItem_list_slice ht.isList hs pl pu .none (by simp) ?_ (by rw [List.size_toArray] <;> omega);rw [z3W, ← hlen];refine ⟨.ref s.heap.objs.size, _, I.laid (t' := s.toks) (o := .lst (z1C xs lo hi)) (fun b ob q => Heap.get?_push_of_some _ q) (Nat.le_refl _) ?_, rfl, q _ (I.hok.fresh (Nat.le_refl _))⟩;exact ⟨Nat.le_trans (z2A xs lo hi) hz, _, 0, (r.drop (HT.sIx xs.length 0 lo)).take (HT.sIx xs.length xs.length hi - HT.sIx xs.length 0 lo), Heap.get?_push_size _ rfl⟩
def z0e : V → Bool
  | .non => true
  | .bl _ => true
  | .int _ => true
  | .str _ => true
  | _ => false
def eqV : V → V → Bool
  | .non, .non => true
  | .bl a, .bl b => a == b
  | .bl a, .int b => (if a then 1 else 0) == b
  | .int a, .bl b => a == (if b then 1 else 0)
  | .int a, .int b => a == b
  | .str a, .str b => a == b
  | _, _ => false
theorem z8p {A : Around} {s : Shared} {y x : V} {u v : Value} (ry : RelV y u) (rx : RelV x v) (fy : z0e y = true) (fx : z0e x = true) : SeqAt.EqAt A s u v (eqV y x) := by
  cases y with
  | non =>
    cases ry;cases x with
    | non => cases rx; exact SeqAt.EqAt.same _
    | bl b => cases rx; exact SeqAt.EqAt.none_bool b
    | int b => obtain ⟨t, rfl⟩ := rx; exact SeqAt.EqAt.none_int b t
    | str b => obtain ⟨t, rfl⟩ := rx; exact SeqAt.EqAt.none_str b t
    | _ => exact absurd (show false = true from fx) Bool.false_ne_true
  | bl a =>
    cases ry;cases x with
    | non => cases rx; exact SeqAt.EqAt.bool_none a
    | bl b => cases rx; exact SeqAt.EqAt.bool_bool a b
    | int b => obtain ⟨t, rfl⟩ := rx; exact SeqAt.EqAt.bool_int a b t
    | str b => obtain ⟨t, rfl⟩ := rx; exact SeqAt.EqAt.bool_str a b t
    | _ => exact absurd (show false = true from fx) Bool.false_ne_true
  | int a =>
    obtain ⟨t', rfl⟩ := ry;cases x with
    | non => cases rx; exact SeqAt.EqAt.int_none a t'
    | bl b => cases rx; exact SeqAt.EqAt.int_bool a t' b
    | int b => obtain ⟨t, rfl⟩ := rx; exact SeqAt.EqAt.int_int a t' b t
    | str b => obtain ⟨t, rfl⟩ := rx; exact SeqAt.EqAt.int_str a t' b t
    | _ => exact absurd (show false = true from fx) Bool.false_ne_true
  | str a =>
    obtain ⟨t', rfl⟩ := ry;cases x with
    | non => cases rx; exact SeqAt.EqAt.str_none a t'
    | bl b => cases rx; exact SeqAt.EqAt.str_bool a t' b
    | int b => obtain ⟨t, rfl⟩ := rx; exact SeqAt.EqAt.str_int a t' b t
    | str b => obtain ⟨t, rfl⟩ := rx; exact SeqAt.EqAt.str_str a t' b t
    | _ => exact absurd (show false = true from fx) Bool.false_ne_true
  | _ => exact absurd (show false = true from fy) Bool.false_ne_true
def eqU (x : V) (u : Value) : Bool := match u with
  | .none => eqV .non x
  | .bool b => eqV (.bl b) x
  | .int i _ => eqV (.int i) x
  | .str z _ => eqV (.str z) x
  | _ => false
theorem z4U {x y : V} {u : Value} (r : RelV y u) (f : z0e y = true) : eqU x u = eqV y x := by
  cases y with
  | non => cases r; rfl
  | bl b => cases r; rfl
  | int i => obtain ⟨t, rfl⟩ := r; rfl
  | str z => obtain ⟨t, rfl⟩ := r; rfl
  | _ => exact absurd (show false = true from f) Bool.false_ne_true
theorem z29 {x : V} : ∀ {xs : List V} {us : List Value}, jb xs us → xs.all z0e = true → us.any (eqU x) = xs.any fun y => eqV y x
  | _, _, .nil, _ => rfl
  | y :: xs, u :: us, .cons r t, f => by
    rw [List.all_cons, Bool.and_eq_true] at f;rw [List.any_cons, List.any_cons, z4U r f.1, z29 t f.2]
theorem z0A {A : Around} {s : Shared} {x : V} {v : Value} (rx : RelV x v) (fx : z0e x = true) : ∀ {xs : List V} {us : List Value}, jb xs us → xs.all z0e = true → ∀ u ∈ us, SeqAt.EqAt A s u v (eqU x u)
  | _, _, .nil, _ => fun u hu => by cases hu
  | y :: xs, u :: us, .cons r t, f => fun u' hu => by
    rw [List.all_cons, Bool.and_eq_true] at f;rcases List.mem_cons.mp hu with rfl | hu
    · rw [z4U r f.1]; exact z8p r rx f.1 fx
    · exact z0A rx fx t f.2 u' hu
def inV (x : V) (xs : List V) : Bool := xs.any fun y => eqV y x
def rIn (K : PySem.W.Frag) (neg : Bool) : R2 := fun x y H Q => ∃ p xs, y = .ref p ∧ (SqL K H p xs ∨ SqT K H p xs) ∧ z0e x = true ∧ xs.all z0e = true ∧ Q (.bl (if neg then !inV x xs else inV x xs)) H
theorem z1z : OpR X (compareOp .In) (rIn X.K false) := by
  intro pins s σ H x y v u Q I rx ry h;obtain ⟨p, xs, rfl, hq, fx, fs, q⟩ := h;cases ry;rcases hq with hq | hq
  · obtain ⟨its, r, pl, hz⟩ := I.list hq;refine SeqAt.in_listAt (eqU x) pl.isList (fun w hw => z0A rx fx r fs w (by simpa using hw)) ⟨.bl _, H, I, rfl, ?_⟩;rw [show its.toArray.any (eqU x) = its.any (eqU x) by simp, z29 r fs];exact q
  · obtain ⟨its, r, pl, hz⟩ := I.tuple hq;refine SeqAt.in_tupleAt (eqU x) pl (fun w hw => z0A rx fx r fs w (by simpa using hw)) ⟨.bl _, H, I, rfl, ?_⟩;rw [show its.toArray.any (eqU x) = its.any (eqU x) by simp, z29 r fs];exact q
theorem z27 : OpR X (compareOp .NotIn) (rIn X.K true) := by
  intro pins s σ H x y v u Q I rx ry h;obtain ⟨p, xs, rfl, hq, fx, fs, q⟩ := h;cases ry;rcases hq with hq | hq
  · obtain ⟨its, r, pl, hz⟩ := I.list hq;refine SeqAt.notIn_listAt (eqU x) pl.isList (fun w hw => z0A rx fx r fs w (by simpa using hw)) ⟨.bl _, H, I, rfl, ?_⟩;rw [show its.toArray.any (eqU x) = its.any (eqU x) by simp, z29 r fs];exact q
  · obtain ⟨its, r, pl, hz⟩ := I.tuple hq;refine SeqAt.notIn_tupleAt (eqU x) pl (fun w hw => z0A rx fx r fs w (by simpa using hw)) ⟨.bl _, H, I, rfl, ?_⟩;rw [show its.toArray.any (eqU x) = its.any (eqU x) by simp, z29 r fs];exact q
theorem zK : z03 X (.builtin "len") (fun xs H Q => ∃ p ys, xs = [.ref p] ∧ (SqL X.K H p ys ∨ SqT X.K H p ys) ∧ Q (.int ys.length) H) := by
  intro pins s σ H xs us Q I r h;obtain ⟨p, ys, rfl, hq, q⟩ := h;obtain ⟨u, rfl, rx⟩ := vals1 r;cases rx;have hn := z15;rcases hq with hq | hq
  · obtain ⟨its, r', pl, hz⟩ := I.list hq;have hlen := r'.length;exact Calls.call_len_list pl.isList (by simp only [List.size_toArray] <;> omega) ⟨.int ys.length, H, I.tok _, ⟨s.toks + 1, by rw [List.size_toArray, hlen]⟩, q⟩
  · obtain ⟨its, r', pl, hz⟩ := I.tuple hq;have hlen := r'.length;exact len_tuple pl (by simp only [List.size_toArray] <;> omega) ⟨.int ys.length, H, I.tok _, ⟨s.toks + 1, by rw [List.size_toArray, hlen]⟩, q⟩
theorem z0O : z03 X (.builtin "len") (fun xs H Q => ∃ z, xs = [.str z] ∧ z.length ≤ sizeLine ∧ Q (.int z.length) H) := by
  intro pins s σ H xs us Q I r h;obtain ⟨z, rfl, hz, q⟩ := h;obtain ⟨u, rfl, t, rfl⟩ := vals1 r;have hn := z15;exact len_str (by omega) ⟨.int z.length, H, I.tok _, ⟨_, rfl⟩, q⟩
theorem z2b : z03 X (.type "list") (fun xs H Q => ∃ p ys, xs = [.ref p] ∧ (SqL X.K H p ys ∨ SqT X.K H p ys) ∧ ∀ l, H l = none → Q (.ref l) (upd H l (.lst ys))) := by
  intro pins s σ H xs us Q I r h;obtain ⟨p, ys, rfl, hq, q⟩ := h;obtain ⟨u, rfl, rx⟩ := vals1 r;cases rx;have fin : ∀ (its : List Value), jb ys its → ys.length ≤ sizeLine → ∀ (h' : Heap) (c' : Nat), (∀ b o', s.heap.get? b = some o' → h'.get? b = some o') →
      h'.get? s.heap.objs.size = some { cls := .type "list", dict := none, data := .seq its.toArray c', slots := #[] } → EP X pins σ Q (.ref s.heap.objs.size) { s with heap := h' } := fun its r' hz h' c' kp e =>
    ⟨.ref s.heap.objs.size, _, I.laid (t' := s.toks) kp (Nat.le_refl _) (show yP X.prog X.w _ h' _ (.lst ys) from ⟨hz, its, c', r', e⟩), rfl, q _ (I.hok.fresh (Nat.le_refl _))⟩
  rcases hq with hq | hq
  · obtain ⟨its, r', pl, hz⟩ := I.list hq;have hlen := r'.length;obtain ⟨o, ho, hc, n, hd⟩ := pl.isList;exact call_list_seq p (.inl rfl) ho hc hd (fun h' c' kp e => fin its r' hz h' c' kp e) (by simp only [List.size_toArray] <;> omega)
  · obtain ⟨its, r', pl, hz⟩ := I.tuple hq;have hlen := r'.length;obtain ⟨o, ho, hc, n, hd⟩ := pl;exact call_list_seq p (.inr rfl) ho hc hd (fun h' c' kp e => fin its r' hz h' c' kp e) (by simp only [List.size_toArray] <;> omega)
theorem z0n : z03 X (.type "tuple") (fun xs H Q => ∃ p ys, xs = [.ref p] ∧ ((SqL X.K H p ys ∧ ∀ l, H l = none → Q (.ref l) (upd H l (.tup ys))) ∨ (SqT X.K H p ys ∧ Q (.ref p) H))) := by
  intro pins s σ H xs us Q I r h;obtain ⟨p, ys, rfl, h⟩ := h;obtain ⟨u, rfl, rx⟩ := vals1 r;cases rx;rcases h with ⟨hq, q⟩ | ⟨hq, q⟩
  · obtain ⟨its, r', pl, hz⟩ := I.list hq;have hlen := r'.length;refine call_tuple_list pl.isList (fun h' kp => ?_) (by simp only [List.size_toArray] <;> omega);have I1 : Inv X pins σ H { s with heap := h' } := I.kept (t' := s.toks) kp;have I2 : Inv X pins σ (upd H h'.objs.size (.tup ys)) { s with heap := h'.push { cls := .type "tuple", data := .seq its.toArray } } :=
      I1.laid (t' := s.toks) (fun b o e => Heap.get?_push_of_some _ e) (Nat.le_refl _) (show yP X.prog X.w _ _ _ (.tup ys) from ⟨hz, its, r', IsTup.new _ _⟩)
    exact ⟨.ref h'.objs.size, _, I2, rfl, q _ (I1.hok.fresh (Nat.le_refl _))⟩
  · obtain ⟨its, r', pl, hz⟩ := I.tuple hq;exact call_tuple_same pl ⟨.ref p, H, I, rfl, q⟩
def tyV (K : PySem.W.Frag) (T : String) (x : V) (H : Hp) : Prop := match x with
  | .str _ => T = "str"
  | .int _ => T = "int"
  | .ref p => (T = "list" ∧ ∃ xs, SqL K H p xs) ∨ (T = "tuple" ∧ ∃ o, K.lookup p = some o ∧ o.cls = .type "tuple" ∧ o.dict = none) ∨
      (T = "dict" ∧ ((∃ kvs, H p = some (.dK kvs)) ∨ ∃ kvs, H p = some (.dT kvs))) ∨ (T = "set" ∧ ∃ S n, H p = some (.set S n))
  | _ => False
theorem z5Y {pins : List (Addr × Obj)} {σ : St} {H : Hp} {s : Shared} {T : String} {x : V} {v : Value} (I : Inv X pins σ H s) (r : RelV x v) (ty : tyV X.K T x H) :
    s.TypeIs v T ∧ ∀ a, v = .ref a → ∃ ob, s.heap.get? a = some ob ∧ ob.dict = none := by
  cases x with
  | str z =>
    obtain ⟨t, rfl⟩ := r;cases (show T = "str" from ty);exact ⟨typeIs_str s z t, fun _ e => nomatch e⟩
  | int i =>
    obtain ⟨t, rfl⟩ := r;cases (show T = "int" from ty);exact ⟨typeIs_int s i t, fun _ e => nomatch e⟩
  | ref p =>
    cases r;rcases ty with ⟨rfl, xs, hq⟩ | ⟨rfl, o, hk, hc, hd⟩ | ⟨rfl, hk⟩ | ⟨rfl, S, n, hk⟩
    · obtain ⟨its, _, pl, _⟩ := I.list hq;refine ⟨pl.isList.typeIs, fun a e => ?_⟩;cases e;obtain ⟨o, n, e, c, hd, _⟩ := pl;exact ⟨o, e, hd⟩
    · refine ⟨⟨o, I.kIn p o hk, hc⟩, fun a e => ?_⟩;cases e;exact ⟨o, I.kIn _ o hk, hd⟩
    · have z : ∃ o, s.heap.get? p = some o ∧ o.ExactDict := by
        rcases hk with ⟨kvs, hk⟩ | ⟨kvs, hk⟩
        · obtain ⟨_, _, _, _, o, _, _, e, ex, _⟩ := I.hok p _ hk;exact ⟨o, e, ex⟩
        · obtain ⟨_, _, _, _, o, _, _, e, ex, _⟩ := I.hok p _ hk;exact ⟨o, e, ex⟩
      obtain ⟨o, e, ex⟩ := z;refine ⟨⟨o, e, ex.1⟩, fun a e2 => ?_⟩;cases e2;exact ⟨o, e, ex.2.1⟩
    · obtain ⟨o, _, _, _, e, ex, _⟩ := I.hok p _ hk;refine ⟨⟨o, e, ex.1⟩, fun a e2 => ?_⟩;cases e2;exact ⟨o, e, ex.2.1⟩
  | _ => exact False.elim ty
def zbV (K : PySem.W.Frag) (T : String) (r : V → List V → Hp → VK → Prop) (to : TE) : TE := fun σ H Q => to σ H fun x H1 => tyV K T x H1 ∧ r x [] H1 Q
def tBM (K : PySem.W.Frag) (T : String) (r : V → List V → Hp → VK → Prop) (to : TE) (t : TA) : TE := fun σ H Q => to σ H fun x H1 => tyV K T x H1 ∧ t σ H1 fun xs H2 => r x xs H2 Q
variable {o e : Expr} {es : List Expr} {to : TE} {t : TA} {name : Str} {apos cpos : Pos} {T id : String} {r : V → List V → Hp → VK → Prop}
theorem z60 (pa : PlainAttrs T) (slot : Slot T name id) (hty : typeOf (.builtin id) = pure (.type "method_descriptor")) (hm : MtR X id r) (ho : PE X o to)
    (hbase : attributeBase o name X.env (eval o X.env) = eval o X.env := by rfl) (hline : (apos.endLine == cpos.line) = true := by rfl) : PE X (.Call (.Attribute o name apos) [] [] cpos) (zbV X.K T r to) := by
  intro pins s σ H Q I h;refine wpAny_Call_method0_late hbase hline (thn (ho pins s σ H _ I h) fun v s1 ⟨x, H1, I1, r1, ty, q1⟩ => ?_);obtain ⟨h1, h2⟩ := z5Y I1 r1 ty;exact ⟨T, id, pa, slot, hty, h1, h2, Calls.callWith_builtin rfl (PySem.evalArgs_none (hm pins s1 σ H1 x [] v [] Q I1 r1 .nil q1))⟩
theorem jZ (pa : PlainAttrs T) (slot : Slot T name id) (hty : typeOf (.builtin id) = pure (.type "method_descriptor")) (hm : MtR X id r) (ho : PE X o to) (ha : PA X (e :: es) t)
    (hbase : attributeBase o name X.env (eval o X.env) = eval o X.env := by rfl)
    (hfew : ((backTo cpos (starEach (e :: es) X.env)).all (fun x => !x.1) && (backToKw cpos (keywordEach [] X.env)).all (fun x => x.1.isSome)
      && decide ((e :: es).length + ([] : List Keyword).length + (if ([] : List Keyword).isEmpty then 0 else 1) < 30)) = true := by rfl)
    (hline : (apos.endLine == cpos.line) = true := by rfl) (hs : starEach (e :: es) X.env = (false, eval e X.env) :: starEach es X.env := by rfl) (hplain : (backTo cpos (starEach es X.env)).any (·.1) = false := by rfl) :
    PE X (.Call (.Attribute o name apos) (e :: es) [] cpos) (tBM X.K T r to t) := by
  intro pins s σ H Q I h;refine wpAny_Call_method_late hbase hfew hline rfl (thn (ho pins s σ H _ I h) fun v s1 ⟨x, H1, I1, r1, ty, q1⟩ => ?_);obtain ⟨h1, h2⟩ := z5Y I1 r1 ty;refine ⟨T, id, pa, slot, hty, h1, h2, ?_⟩;have hA := ha cpos pins s1 σ H1 _ I1 q1;rw [hs] at hA ⊢;refine Calls.callWith_builtin (by show (false || (backTo cpos (starEach es X.env)).any (·.1)) = false; rw [hplain] <;> rfl) (Calls.evalArgs_plain ?_);exact thn hA fun us s2 ⟨vs, H2, I2, r2, q2⟩ => hm pins s2 σ H2 x vs v us Q I2 r1 r2 q2
end
end L2
namespace L2
open PySem PySem.Spec PyProof.Rows
def MtM (X : Cx) (id : String) (r : V → List V → Hp → VK → Prop) : Prop :=
  ∀ (pins : List (Addr × Obj)) (s : Shared) (σ : St) (H : Hp) (x : V) (xs : List V) (v : Value) (us : List Value) (Q : VK), Inv X pins σ H s → RelV x v → jb xs us → r x xs H Q →
    wpAny (model X.prog X.w) X.A (call (.builtin id) (v :: us)) (EP X pins σ Q) X.xe s
theorem jb.one : ∀ {x : V} {us : List Value}, jb [x] us → ∃ u, us = [u] ∧ RelV x u
  | _, _, .cons r .nil => ⟨_, rfl, r⟩
theorem jb.zero : ∀ {us : List Value}, jb [] us → us = []
  | _, .nil => rfl
theorem jb.dropLast {xs : List V} {us : List Value} (h : jb xs us) : jb xs.dropLast us.dropLast := by
  induction h with
  | nil => exact .nil
  | cons r t ih =>
    cases t with
    | nil => exact .nil
    | cons q t' => exact .cons r ih
theorem jb.rep {xs : List V} {us : List Value} (h : jb xs us) : ∀ k : Nat, jb (List.replicate k xs).flatten (List.replicate k us).flatten
  | 0 => .nil
  | k + 1 => by
    rw [List.replicate_succ, List.replicate_succ, List.flatten_cons, List.flatten_cons];exact jb.append h (jb.rep h k)
theorem z6m {α : Type} (l : List α) : l.eraseIdx (l.length - 1) = l.dropLast := by
  induction l with
  | nil => rfl
  | cons a r ih =>
    cases r with
    | nil => rfl
    | cons b r =>
      have e : (a :: b :: r).length - 1 = ((b :: r).length - 1) + 1 := by
        have h1 : (a :: b :: r).length = r.length + 2 := rfl;have h2 : (b :: r).length = r.length + 1 := rfl;omega
      rw [e, List.eraseIdx_cons_succ, ih]
      all_goals rfl
theorem foldl_rep (its : List Value) : ∀ (k : Nat) (acc : List Value),
    List.foldl (fun x1 x2 => x1 ++ x2) acc.toArray (List.replicate k its.toArray) = (acc ++ (List.replicate k its).flatten).toArray
  | 0, acc => by simp
  | k + 1, acc => by
    have e : acc.toArray ++ its.toArray = (acc ++ its).toArray := by simp
    have e2 : (acc ++ its) ++ (List.replicate k its).flatten = acc ++ (List.replicate (k + 1) its).flatten := by
      rw [List.replicate_succ, List.flatten_cons, List.append_assoc]
    rw [← e2, ← foldl_rep its k (acc ++ its), ← e, List.replicate_succ, List.foldl_cons]
section
variable {X : Cx} {pins : List (Addr × Obj)} {σ : St} {H : Hp} {s : Shared} {l b : Addr} {xs ys zs : List V}
theorem Inv.lset {its its' : List Value} {n : Nat} {f : Array Value → Array Value} {t' : Nat} (I : Inv X pins σ H s) (hH : H l = some (.lst xs))
    (e : s.heap.get? l = some { cls := .type "list", data := .seq its.toArray n }) (hf : f its.toArray = its'.toArray) (hv : jb ys its') (hz : ys.length ≤ sizeLine) :
    Inv X pins σ (upd H l (.lst ys)) { s with heap := s.heap.update l (Obj.mapSeq f), toks := t' } := by
  have q := PySem.IsL.update e f;rw [hf] at q;refine I.write (x := l) (e := l) (by rw [hH]; exact trivial) (.inl rfl) (fun b' u hb hu => (Heap.get?_update_other s.heap (Obj.mapSeq f) (Ne.symm hb)).trans hu) ⟨_, q⟩ ?_;exact ⟨hz, its', _, hv, q⟩
theorem Inv.lnew {its : List Value} {t' : Nat} (I : Inv X pins σ H s) (hv : jb ys its) (hz : ys.length ≤ sizeLine) :
    Inv X pins σ (upd H s.heap.objs.size (.lst ys)) { s with heap := s.heap.push { cls := .type "list", data := .seq its.toArray }, toks := t' } :=
  I.laid (fun _ _ q => Heap.get?_push_of_some _ q) (Nat.le_refl _) ⟨hz, its, 0, hv, Heap.get?_push_size _ rfl⟩
theorem Inv.fresh (I : Inv X pins σ H s) : H s.heap.objs.size = none := I.hok.fresh (Nat.le_refl _)
theorem Inv.lstM (I : Inv X pins σ H s) (hH : H l = some (.lst xs)) : xs.length ≤ sizeLine ∧ ∃ (its : List Value) (n : Nat), jb xs its ∧ xs.length = its.length ∧ s.heap.get? l = some { cls := .type "list", data := .seq its.toArray n } := by
  obtain ⟨z, its, n, r, e⟩ := I.hok l _ hH;exact ⟨z, its, n, r, r.length, e⟩
end
section
variable {X : Cx}
def z9P : V → List V → Hp → VK → Prop := fun x vs H Q => ∃ l xs y, x = .ref l ∧ vs = [y] ∧ H l = some (.lst xs) ∧ xs.length < sizeLine ∧ Q .non (upd H l (.lst (xs ++ [y])))
theorem yK : MtM X "list.append" z9P := by
  intro pins s σ H x vs v us Q I rx rv h;obtain ⟨l, xs, y, rfl, rfl, hH, hz, q⟩ := h;cases rx;obtain ⟨u, rfl, ru⟩ := rv.one;obtain ⟨z, its, n, r, hl, e⟩ := I.lstM hH;refine call_meets F.slot_list_append ⟨_, e, rfl⟩ F.entry_list_append (F.args_list_append_2 _ _) (PySem.list_append l its.toArray n u (by rw [List.size_toArray]; omega)) ⟨e, ?_⟩;refine ⟨.non, _, I.lset (its' := its ++ [u]) hH e (by simp) (r.append (.cons ru .nil)) ?_, rfl, q⟩;rw [List.length_append, List.length_singleton];omega
def zc5 : V → List V → Hp → VK → Prop := fun x vs H Q => ∃ l xs y, x = .ref l ∧ vs = [] ∧ H l = some (.lst xs) ∧ xs[xs.length - 1]? = some y ∧ Q y (upd H l (.lst xs.dropLast))
theorem z87 : MtM X "list.pop" zc5 := by
  intro pins s σ H x vs v us Q I rx rv h;obtain ⟨l, xs, y, rfl, rfl, hH, hy, q⟩ := h;cases rx;have hus := rv.zero;subst hus;obtain ⟨z, its, n, r, hl, e⟩ := I.lstM hH;obtain ⟨u, hu, ru⟩ := r.get hy;have hy' : its.toArray[its.toArray.size - 1]? = some u := by
    show its.toArray[its.length - 1]? = some u
    rw [← Array.getElem?_toList, ← hl];exact hu
  refine call_meets F.slot_list_pop ⟨_, e, rfl⟩ F.entry_list_pop (F.args_list_pop_1 _) (MeetsSeq.list_pop_last l its.toArray n u hy' (by rw [List.size_toArray]; omega)) ⟨e, ?_⟩;refine ⟨y, _, I.lset (its' := its.dropLast) hH e ?_ r.dropLast ?_, ru, q⟩
  · show its.toArray.eraseIdxIfInBounds (its.toArray.size - 1) = its.dropLast.toArray
    rw [List.size_toArray, List.eraseIdxIfInBounds_toArray, z6m]
  · rw [List.length_dropLast];omega
def zcj : R2 := fun x y H Q => ∃ l b xs zs, x = .ref l ∧ y = .ref b ∧ H l = some (.lst xs) ∧ H b = some (.lst zs) ∧ xs.length + zs.length ≤ sizeLine ∧ ∀ p, H p = none → Q (.ref p) (upd H p (.lst (xs ++ zs)))
theorem jR : OpR X (binaryOp .Add) zcj := by
  intro pins s σ H x y v u Q I rx ry h;obtain ⟨l, b, xs, zs, rfl, rfl, hH, hB, hz, q⟩ := h;cases rx;cases ry;obtain ⟨z, its, n, r, hl, e⟩ := I.lstM hH;obtain ⟨z2, its2, n2, r2, hl2, e2⟩ := I.lstM hB;refine PySem.P.add_list e e2 ?_ (by rw [List.size_toArray, List.size_toArray]; omega);have ea : its.toArray ++ its2.toArray = (its ++ its2).toArray := by simp
  rw [ea];exact ⟨.ref _, _, I.lnew (t' := s.toks) (r.append r2) (by rw [List.length_append]; omega), rfl, q _ I.fresh⟩
theorem len_rep {α : Type} (xs : List α) (k : Nat) : (List.replicate k xs).flatten.length = k * xs.length := by
  induction k with
  | zero => simp
  | succ k ih => rw [List.replicate_succ, List.flatten_cons, List.length_append, ih, Nat.succ_mul, Nat.add_comm]
end
section
variable {prog : Program} {w : World} {A : Around} {E : Value → Shared → Prop} {s : Shared}
end
section
variable {X : Cx}
end
end L2
namespace L2
open PySem PySem.Spec PyProof.Rows
section
variable {κ : Type} [DecidableEq κ]
end
section
variable {P : Program} {w : World} {H : Hp} {h : Heap} {a : Addr}
end
section
variable {X : Cx} {pins : List (Addr × Obj)} {σ : St} {H : Hp} {s : Shared} {a : Addr} {y v : V} {u r : Value} {o : Option V} {A : Around} {E : Value → Shared → Prop}
end
section
variable {X : Cx} {pins : List (Addr × Obj)} {σ : St} {H : Hp} {s : Shared} {a : Addr} {kvs : List (Key × V)} {k : Key} {u : Value} {A : Around} {E : Value → Shared → Prop}
end
section
variable {X : Cx} {o i e value : Expr} {pos pos' tpos : Pos} {td ty tv : TE}
end
section
variable {X : Cx} {pos : Pos}
end
structure M1 (X : Cx) (o : Expr) (m : Str) (apos : Pos) (e : Expr) (cpos : Pos) : Prop where
  base : attributeBase o m X.env (eval o X.env) = eval o X.env
  few : ((backTo cpos (starEach [e] X.env)).all (fun x => !x.1) && (backToKw cpos (keywordEach [] X.env)).all (fun x => x.1.isSome)
    && decide (([e] : List Expr).length + ([] : List Keyword).length + (if ([] : List Keyword).isEmpty then 0 else 1) < 30)) = true
  line : (apos.endLine == cpos.line) = true
  trees : backTo cpos (starEach [e] X.env) = [(false, eval e X.env)]
structure M2 (X : Cx) (o : Expr) (m : Str) (apos : Pos) (e f : Expr) (cpos : Pos) : Prop where
  base : attributeBase o m X.env (eval o X.env) = eval o X.env
  few : ((backTo cpos (starEach [e, f] X.env)).all (fun x => !x.1) && (backToKw cpos (keywordEach [] X.env)).all (fun x => x.1.isSome)
    && decide (([e, f] : List Expr).length + ([] : List Keyword).length + (if ([] : List Keyword).isEmpty then 0 else 1) < 30)) = true
  line : (apos.endLine == cpos.line) = true
  trees : backTo cpos (starEach [e, f] X.env) = [(false, eval e X.env), (false, eval f X.env)]
section
variable {X : Cx} {pins : List (Addr × Obj)} {σ : St} {H : Hp} {s : Shared} {a : Addr} {y d : V} {u r : Value} {o : Option V} {A : Around} {E : Value → Shared → Prop}
end
section
variable {X : Cx} {o e f : Expr} {apos cpos : Pos} {td ty tx : TE}
end
section
variable {X : Cx} {pins : List (Addr × Obj)} {σ : St} {H : Hp} {s : Shared} {a : Addr} {y : V} {u : Value} {A : Around} {E : Value → Shared → Prop}
end
end L2
namespace Att
open PySem PySem.W PySem.Calls PyProof.Rows
theorem z2O {P : Params} {h : Heap} : ∀ (ns : List Int) (vs : List Value), WellAll P h vs (ns.map WData.int) → IntsAre vs ns := by
  intro ns
  induction ns with
  | nil =>
    intro vs w;rw [List.map_nil] at w;cases w;exact .nil
  | cons n ns ih =>
    intro vs w;rw [List.map_cons] at w;cases w with
    | cons a b =>
      cases a;exact .cons _ _ (ih _ b)
theorem z7X {l : OpenLaw} {n : Nat} (hn : l.most = some n) {P : Params} {h : Heap} {args : List WData} {vals : List Value}
    (hpre : l.row.toRowW.claim.pre args = true) (hwl : WellAll P h vals args) :
    ∃ a vs ns, vals = [Value.ref a] ∧ args = [WData.list (ns.map WData.int)] ∧ h.get? a = some { cls := .type "list", data := .seq vs.toArray } ∧ IntsAre vs ns ∧ ns.length ≤ n := by
  have hsh : WShape.hasAll [] args [.list .int] = true := (pre_splitW hpre).1;have hc : l.pre.holds [] { args := args } = true := (pre_splitW hpre).2;obtain ⟨d, r, rfl, h1, h2⟩ := hasAllW_cons hsh;obtain rfl := hasAllW_nil h2;obtain ⟨xs, rfl, h3⟩ := hasW_list h1;obtain ⟨ns, rfl⟩ := items_int h3;have hlen : ns.length ≤ n := by
    unfold OpenLaw.pre at hc;have h4 : (WTm.not (.lt (.lit (.int (n : Int))) (.len (.arg 0)))).holds [] { args := [.list (ns.map .int)] } = true := by
      have h4 := (holds_andW hc).1;rw [hn] at h4;exact h4
    have h5 := condW_of h4 (w_not (w_lt w_lit (w_len_list (w_arg rfl))));rw [List.length_map] at h5;refine Nat.le_of_not_lt fun q => ?_
    have q' : (n : Int) < ((ns.length : Nat) : Int) := by omega
    first
      | (rw [decide_eq_true q'] at h5; exact absurd h5 (by decide))
      | (simp at h5; omega)
  cases hwl with
  | cons w1 w2 =>
    cases w2;cases w1 with
    | list ho hall => exact ⟨_, _, ns, rfl, rfl, ho, z2O ns _ hall, hlen⟩
theorem z82 (l : OpenLaw) (args : List WData) : l.row.toRowW.claim.post args (.bool true) args = true :=
  postW_of (r := l.row.toRowW) (X := (true == true))
    (show WShape.has [] (.bool true) .bool = true by first | rfl | decide | simp [WShape.has, WShape.arms, WShape.armsAll])
    (show (WTm.eq .res (.lit (.bool true))).value [] { args := args, res := some (.bool true), after := args } = some (.bool (true == true)) from w_eq_bool (w_res rfl) w_lit) rfl
theorem attach_call {l : OpenLaw} {n : Nat} {q : Program} {loose : List Str} {XP : (Str → Option Value) → Heap → Prop} {YP : World → Heap → Prop} {d : DefRec}
    (hn : l.most = some n) (hdf : d.params.defaults = [])
    (call : ∀ (w : World) (s₀ s₁ : Shared) (mg mb : Str → Option Value) (fa : Addr) (o : Obj) (pm cd doc : Value) (a : Addr) (vs : List Value) (ns : List Int),
      Ground q loose [] XP w s₀ mg mb s₁.heap → YP w s₁.heap →
      s₁.heap.get? fa = some o → o.data = .func (docDef d.name d.params d.body d.scope pm cd doc) → s₁.heap.CodeRec cd d.name → mg d.name = some (.ref fa) →
      s₁.heap.get? a = some { cls := .type "list", data := .seq vs.toArray } → IntsAre vs ns → ns.length ≤ n → s₁.gens = #[] →
      codeAny (model l.prog w) callerA (.call (.ref fa) ⟨[.ref a], []⟩) (fun r s' => r = .ok (.ret (.bool true)) ∧ OldK s₁.heap s'.heap ∧ s'.os = s₁.os ∧ AllBare s'.gens) s₁) :
    WalkO q loose XP YP l.row.toRowW d [] (fun f vs => PySem.call f vs) := by
  intro w s₀ s₁ mg mb G Y fa o pm cd doc dV kV ho hd hcd hD hmg hg args vals as hpre hlay hrd hwl hlo;obtain rfl : dV = .none := Dflts.none hD hdf;obtain rfl : kV = .none := Dflts.noKw hD;obtain ⟨a, vs, ns, rfl, rfl, hobj, hints, hlen⟩ := z7X hn hpre hwl;refine enter_call (codeAny_mono (call w s₀ s₁ mg mb fa o pm cd doc a vs ns G Y ho (fd_plain hd) hcd hmg hobj hints hlen hg) fun r s' hq => ?_);obtain ⟨rfl, h2, h3, h4⟩ := hq;exact ⟨.inl ⟨.bool true, .bool true, [], rfl, fun _ => rfl, .bool true, z82 l _, fun _ => ⟨List.Pairwise.nil, fun _ hm => (nomatch hm)⟩⟩, h2, h3, h4⟩
section
variable {prog : Program} {w : World} {A : Around} {E : Value → Shared → Prop} {s : Shared} {K : Frag}
end
end Att
namespace L2
open PySem PySem.Spec PyProof.Rows
theorem z4n : ∀ {vs : List Value} {ns : List Int}, IntsAre vs ns → jb (ns.map V.int) vs
  | _, _, .nil => .nil
  | _, _, .cons n t h => .cons ⟨t, rfl⟩ (z4n h)
def zba (H : Hp) : Prop := ∀ b, H b = none ∨ ∃ o xs, H b = some (.frz o (.lst xs))
theorem z8m {P : Program} {w : World} {K : PySem.W.Frag} {mg mb : Str → Option Value} {CX : CXT} {k : Nat} {fa a : Addr} {fd : FuncData} {x : Str} {sp : Sp} {s₁ : Shared} {vs : List Value} {ns : List Int}
    (KX : K.In s₁.heap) (hns : s₁.heap.Ns mainGlobals mg) (hb : s₁.heap.Ns builtinsNs mb) (hbb : ∀ x : Str, x ≠ "__name__" → mb x = bootBuiltins x) (hlim : s₁.heap.NoLimit) (hg : s₁.gens = #[])
    (ha : s₁.heap.get? a = some { cls := .type "list", data := .seq vs.toArray }) (hi : IntsAre vs ns) (hl : ns.length ≤ sizeLine) (hr : Room k callerA)
    (F : ∀ base : Heap, K.In base → base.Ns mainGlobals mg → FnOk P w K mg base CX k fa fd [x] sp) (hbind : ∀ (s : Shared) (u : Value), BindsTo s fd ⟨[u], []⟩ [(x, u)])
    (hsp : ∀ H : Hp, zba H → SqL K H a (ns.map V.int) → sp [.ref a] H (fun v _ => v = .bl true) fun _ _ _ => False)
    (hCX : ∀ H e s', CX [] H s₁ (fun _ _ _ => False) e s' → False) :
    codeAny (model P w) callerA (.call (.ref fa) ⟨[.ref a], []⟩) (fun r s' => r = .ok (.ret (.bool true)) ∧ OldK s₁.heap s'.heap ∧ s'.os = s₁.os ∧ AllBare s'.gens) s₁ := by
  have rv := z4n hi;have lenV := hi.length;have core : ∀ H : Hp, zba H → SqL K H a (ns.map V.int) → HOk P w H s₁.heap → (∀ b, H b ≠ none → b = a) → (H a ≠ none → K.lookup a = none) →
      codeAny (model P w) callerA (.call (.ref fa) ⟨[.ref a], []⟩) (fun r s' => r = .ok (.ret (.bool true)) ∧ OldK s₁.heap s'.heap ∧ s'.os = s₁.os ∧ AllBare s'.gens) s₁ := by
    intro H hO hS hok hA hK;have base_of : ∀ {b : Addr} {o : Obj}, s₁.heap.get? b = some o → H b = none → (z4A s₁.heap H).get? b = some o := fun e n => z9a e n
    have noA : ∀ {b : Addr} {o : Obj} {es : Array DictEntry} {ep : Nat}, s₁.heap.get? b = some o → o.data = .dict es ep → H b = none := fun {b o es ep} e d => by
      cases q : H b with
      | none => rfl
      | some u =>
        have e' : b = a := hA b (by rw [q]; simp);subst e';rw [ha] at e; cases e;have d' : Data.seq vs.toArray _ = Data.dict es ep := d;cases d'
    have nsK : ∀ {b : Addr} {m : Str → Option Value}, s₁.heap.Ns b m → (z4A s₁.heap H).Ns b m := fun {b m} ⟨o, es, ep, e, d, r⟩ => ⟨o, es, ep, base_of e (noA e d), d, r⟩
    have hKb : K.In (z4A s₁.heap H) := fun b o e => base_of (KX b o e) (by
      cases q : H b with
      | none => rfl
      | some u =>
        have e' : b = a := hA b (by rw [q]; simp);subst e';rw [hK (by rw [q]; simp)] at e; cases e)
    have hM : Mod K mg (z4A s₁.heap H) := ⟨hKb, nsK hns, ⟨mb, nsK hb, hbb⟩, let ⟨mc, h1, h2⟩ := hlim; ⟨mc, nsK h1, h2⟩⟩;have e0 : Env0 P w K mg (z4A s₁.heap H) callerA [] s₁ H := ⟨rfl, hM, fun b o e => z9m e, Nat.le_of_eq (z7U _ _), trivial, fun b hb => absurd (show b ∈ ([] : List Addr) from hb) (by simp), hok, .of_eq hg⟩;refine codeAny_mono ((F _ hKb (nsK hns)).run callerA [] s₁ H ⟨[.ref a], []⟩ [.ref a] [.ref a] _ _ hr e0 (hbind s₁ (.ref a)) (.cons rfl .nil) (hsp H hO hS)) fun r s' h => ?_
    cases r with
    | error e => exact (hCX H e s' h).elim
    | ok fl =>
      cases fl with
      | next => exact False.elim h
      | brk => exact False.elim h
      | cont => exact False.elim h
      | ret u =>
        obtain ⟨v, H', os, bare, un, hok', r', q⟩ := h;have q' : v = .bl true := q;subst q';obtain rfl : u = Value.bool true := r';refine ⟨rfl, OldK.of_keep fun b o e => ?_, os, bare⟩;cases q : H b with
        | none => exact un.keep b o e q (by intro z; exact absurd (show b ∈ ([] : List Addr) from z) (by simp)) (by simp)
        | some u =>
          rcases hO b with z | ⟨ob, xs, z⟩
          · rw [q] at z; cases z
          · have z2 := un.frzs b ob _ z;obtain ⟨e1, _⟩ := hok b _ z;obtain ⟨e2, _⟩ := hok' b _ z2;rw [e] at e1; cases e1;exact e2
  cases hk : K.lookup a with
  | some o =>
    have e := KX a o hk;rw [ha] at e;cases e;refine core (fun _ => none) (fun _ => .inl rfl) (.inr ⟨_, vs.toArray, _, hk, rfl, rfl, rfl, by rw [List.size_toArray, lenV]; exact hl, by simpa using rv⟩) (fun b u z => by have z' : (none : Option HO) = some u := z; cases z') (fun b z => absurd rfl z) fun z => absurd rfl z
  | none =>
    refine core (fun b => if b = a then some (.frz { cls := .type "list", data := .seq vs.toArray } (.lst (ns.map V.int))) else none) (fun b => ?_) (.inl (.inr ⟨{ cls := .type "list", data := .seq vs.toArray }, if_pos rfl⟩)) (fun b u z => ?_) (fun b z => ?_) fun _ => hk
    · by_cases hb : b = a
      · exact .inr ⟨_, _, if_pos hb⟩
      · exact .inl (if_neg hb)
    · by_cases hb : b = a
      · have z' := (if_pos hb).symm.trans z;cases z';subst hb;exact ⟨ha, by rw [List.length_map]; exact hl, vs, _, rv, ha⟩
      · have z' := (if_neg hb).symm.trans z;cases z'
    · by_cases hb : b = a
      · exact hb
      · exact absurd (if_neg hb) z
end L2
namespace L2
open PySem PySem.Spec PyProof.Rows
theorem walk_of {l : PySem.W.OpenLaw} {n k : Nat} {q : Program} {loose : List Str} {XP : (Str → Option Value) → Heap → Prop} {YP : World → Heap → Prop} {d : DefRec} {K : Params → PySem.W.Frag} {CX : World → CXT} {sp : World → Sp} {x : Str}
    (hn : l.most = some n) (hn2 : n ≤ sizeLine) (hdf : d.params.defaults = []) (hr : Room k callerA)
    (hY : ∀ (w : World) (h : Heap), YP w h → (K w.params).In h)
    (F : ∀ (w : World) (mg : Str → Option Value) (fa : Addr) (h : Heap), (K w.params).In h → h.Ns mainGlobals mg → mg d.name = some (.ref fa) →
      ∃ fd : FuncData, (∀ (s : Shared) (u : Value), BindsTo s fd ⟨[u], []⟩ [(x, u)]) ∧
        ∀ base : Heap, (K w.params).In base → base.Ns mainGlobals mg → FnOk l.prog w (K w.params) mg base (CX w) k fa fd [x] (sp w))
    (hsp : ∀ (w : World) (H : Hp) (a : Addr) (ns : List Int), ns.length ≤ n → zba H → SqL (K w.params) H a (ns.map V.int) → sp w [.ref a] H (fun v _ => v = .bl true) fun _ _ _ => False)
    (hCX : ∀ (w : World) (H : Hp) (s : Shared) (e : Value) (s' : Shared), CX w [] H s (fun _ _ _ => False) e s' → False) :
    PySem.W.WalkO q loose XP YP l.row.toRowW d [] (fun f vs => PySem.call f vs) := by
  refine Att.attach_call hn hdf fun w s₀ s₁ mg mb fa o pm cd doc a vs ns G Y ho hd hcd hmg hobj hints hlen hg => ?_
  have KX := hY w _ Y;obtain ⟨fd, hb, hF⟩ := F w mg fa _ KX G.T.g hmg;exact z8m KX G.T.g G.T.b G.T.builtins G.T.nolimit hg hobj hints (Nat.le_trans hlen hn2) hr hF hb (fun H hO hS => hsp w H a ns hlen hO hS) fun H e s' => hCX w H s₁ e s'
end L2
namespace L2
open PySem PySem.Spec PyProof.Rows
def j7 (s : Stmt) : Arguments := match s with
  | .FunctionDef _ a _ _ _ _ _ _ _ _ => a
  | _ => { posonlyargs := [], args := [], vararg := none, kwonlyargs := [], kw_defaults := [], kwarg := none, defaults := [] }
def j6 (s : Stmt) : List Stmt := match s with
  | .FunctionDef _ _ b _ _ _ _ _ _ _ => b
  | _ => []
def zv (s : Stmt) : Scope := match s with
  | .FunctionDef _ _ _ _ _ _ sc _ _ _ => sc
  | _ => { kind := .function, names := [], isGenerator := false, isCoroutine := false }
abbrev CX0 : CXT := fun _ _ _ _ _ _ => False
abbrev E0 : XK := fun _ _ _ => False
theorem zbp {X : Cx} : z4O CX0 X E0 := fun _ _ _ _ _ _ _ h => h.elim
structure Fun (K : PySem.W.Frag) (x qual : Str) (st : Stmt) (f : Addr) (fd : FuncData) : Prop where
  ex : ∃ (oc : Value) (od : Option Addr) (kV doc pm : Value) (an : Option Addr) (cdv ct : Value) (osl : Array (Option Value)),
    fd = PySem.W.fnOf x qual (j7 st) (j6 st) (zv st) .none kV doc pm an cdv ct ∧ K.lookup f = some ⟨oc, od, .func fd, osl⟩ ∧ PySem.W.codeIn K cdv qual = true
  kp : PySem.W.keepIn K (.ref f) = true
section
variable {P : Program} {w : World} {K : PySem.W.Frag} {mg : Str → Option Value} {base : Heap}
theorem Fun.ok {x qual : Str} {st : Stmt} {f : Addr} {fd : FuncData} {N ps : List Str} {k : Nat} {sp : Sp} (F : Fun K x qual st f fd) (S : FnScope N ps (zv st)) (len : ∀ vs H Q E, sp vs H Q E → vs.length = ps.length)
    (hbody : ∀ (cdv : Value) (A : Around) (outer : List Env) (s : Shared) (H : Hp) (vs : List V) (Q : VK) (E : XK), Room k (A.deeper (envOfC qual (zv st) s.heap.objs.size f cdv)) → sp vs H Q E →
      ∃ t, PSs (z25 CX0 P w K mg base N qual (zv st) f cdv A outer s H E).nox (j6 st) t ∧ t { nx := fun _ H' => Q .non H', rt := Q } (start N vs) H) : FnOk P w K mg base CX0 (k + 1) f fd ps sp := by
  obtain ⟨oc, od, kV, doc, pm, an, cdv, ct, osl, rfl, lk, hcd⟩ := F.ex;refine zai lk hcd S len fun A outer s H vs Q E hr hsp => ?_
  obtain ⟨t, h, q⟩ := hbody cdv A outer s H vs Q E hr hsp;exact ⟨t, h.nox, q⟩
theorem Fun.binds {x qual : Str} {st : Stmt} {f : Addr} {fd : FuncData} {ps : List Str} (F : Fun K x qual st f fd)
    (h : ∀ (kV doc pm : Value) (an : Option Addr) (cdv ct : Value) (us : List Value), us.length = ps.length → bindArgs (PySem.W.fnOf x qual (j7 st) (j6 st) (zv st) .none kV doc pm an cdv ct) ⟨us, []⟩ = pure (ps.zip us)) : Binds K fd ps [] := by
  obtain ⟨oc, od, kV, doc, pm, an, cdv, ct, osl, rfl, lk, hcd⟩ := F.ex;exact .all (h kV doc pm an cdv ct)
theorem ju {x qual : Str} {st : Stmt} {f : Addr} {oc : Value} {od an : Option Addr} {osl : Array (Option Value)} {kV doc pm cdv ct : Value} (l : K.lookup f = some ⟨oc, od, .func (PySem.W.fnOf x qual (j7 st) (j6 st) (zv st) .none kV doc pm an cdv ct), osl⟩)
    (c : PySem.W.codeIn K cdv qual = true) (k : PySem.W.keepIn K (.ref f) = true) : Fun K x qual st f (PySem.W.fnOf x qual (j7 st) (j6 st) (zv st) .none kV doc pm an cdv ct) := ⟨⟨oc, od, kV, doc, pm, an, cdv, ct, osl, rfl, l, c⟩, k⟩
end
theorem z6Z {A : Around} {k : Nat} (hr : Room k A) : A.units + 1 < cLine := Nat.lt_of_le_of_lt (Nat.add_le_add_left (by decide : 1 ≤ 64) _) hr.units
section
variable {X : Cx}
theorem pv (i : Nat) {x : Str} {pos : Pos} (hN : X.N[i]? = some x := by rfl) (hv : Vis X.env.scope x := by first | exact Or.inl rfl | exact Or.inr (Or.inl rfl) | exact Or.inr (Or.inr rfl)) (hd : (x == ("__debug__" : Str)) = false := by decide)
    (hcd : (x == ("__classdict__" : Str)) = false := by decide) : PE X (.Name x pos) (z9j i) := zaZ hN hv hd hcd
end
theorem zas {A B : Prop} (h : B) : if false = true then A else B := by
  rw [if_neg Bool.false_ne_true];exact h
theorem zab {A B : Prop} (h : A) : if true = true then A else B := by
  rw [if_pos rfl];exact h
theorem yu {c A B : Prop} [Decidable c] (h1 : c → A) (h2 : ¬ c → B) : if c then A else B := by
  by_cases h : c
  · rw [if_pos h];exact h1 h
  · rw [if_neg h];exact h2 h
def zM (H H' : Hp) : Prop := ∀ b o, H b = some o → H' b = some o
theorem zM.refl (H : Hp) : zM H H := fun _ _ h => h
theorem zM.trans {H H1 H2 : Hp} (a : zM H H1) (b : zM H1 H2) : zM H H2 := fun c o h => b c o (a c o h)
theorem zM.free {H H' : Hp} (e : zM H H') {l : Addr} (h : H' l = Option.none) : H l = Option.none := by
  cases q : H l with
  | none => rfl
  | some o =>
    rw [e l o q] at h;cases h
theorem zM.seq {K : PySem.W.Frag} {H H' : Hp} {a : Addr} {xs : List V} (e : zM H H') (h : SqL K H a xs) : SqL K H' a xs := by
  rcases h with (h | ⟨o, h⟩) | h
  · exact .inl (.inl (e _ _ h))
  · exact .inl (.inr ⟨o, e _ _ h⟩)
  · exact .inr h
section
variable {κ : Type} [DecidableEq κ]
end
end L2

namespace L2
open PySem PySem.Spec PyProof.Rows
theorem jB {H : Hp} {p : Addr} (h : H p = none) (o : HO) : zM H (upd H p o) := fun b u q => by rw [zO (zy q h)]; exact q
theorem zM.tup {K : PySem.W.Frag} {H H' : Hp} {a : Addr} {xs : List V} (e : zM H H') (h : SqT K H a xs) : SqT K H' a xs := by
  rcases h with (h | ⟨o, h⟩) | h
  · exact .inl (.inl (e _ _ h))
  · exact .inl (.inr ⟨o, e _ _ h⟩)
  · exact .inr h
theorem zM.put {H H' : Hp} {l : Addr} {o : HO} (e : zM H H') (h : H l = none) : zM H (upd H' l o) := fun b u q => by
  rw [zO (zy q h)];exact e b u q
def Kp (l : Addr) (H H' : Hp) : Prop := ∀ b o, b ≠ l → H b = some o → H' b = some o
theorem Kp.refl {l : Addr} {H : Hp} : Kp l H H := fun _ _ _ h => h
theorem Kp.trans {l : Addr} {H H1 H2 : Hp} (a : Kp l H H1) (b : Kp l H1 H2) : Kp l H H2 := fun c o n h => b c o n (a c o n h)
theorem zM.kp {l : Addr} {H H' : Hp} (e : zM H H') : Kp l H H' := fun b o _ h => e b o h
theorem z1e {l : Addr} {H : Hp} {o : HO} : Kp l H (upd H l o) := fun b u n h => by rw [zO n]; exact h
theorem Kp.put {l : Addr} {H H' : Hp} {o : HO} (e : Kp l H H') : Kp l H (upd H' l o) := e.trans z1e
theorem zt {n : Nat} (h : n ≤ 1000000) : n ≤ sizeLine := by
  have : sizeLine = 16777216 := sizeLine_eq;omega
theorem jj {n : Nat} (h : n ≤ 1000000) : n < sizeLine := by
  have : sizeLine = 16777216 := sizeLine_eq;omega
section
variable {X : Cx}
theorem yA : z03 X (.builtin "isinstance") (fun xs H Q => ∃ x n t b, xs = [x, .ty n] ∧ TyOf X.K H x t ∧ PySem.W.kitOne X.K t (.type n) = some b ∧ Q (.bl b) H) := by
  intro pins s σ H xs us Q I r h;obtain ⟨x, n, t, b, rfl, ty, e, q⟩ := h;obtain ⟨u, w', rfl, rx, ry⟩ := vals2 r;cases (show w' = Value.type n from ry);exact z7q I rx ty e fun tk => ⟨.bl b, H, I.tok _, rfl, q⟩
end
theorem z0i {K : PySem.W.Frag} {n : String} : PySem.W.kitOne K (.type n) (.type n) = some true := by
  unfold PySem.W.kitOne;rw [if_pos (beq_self_eq_true _)]
theorem z2D {K : PySem.W.Frag} : PySem.W.kitOne K (.type "int") (.type "str") = some false := by kernel_rfl
theorem z1E {K : PySem.W.Frag} : PySem.W.kitOne K (.type "str") (.type "tuple") = some false := by kernel_rfl
theorem z3S {K : PySem.W.Frag} : PySem.W.kitOne K (.type "int") (.type "tuple") = some false := by kernel_rfl
theorem z4T {K : PySem.W.Frag} : PySem.W.kitOne K (.type "int") (.type "bool") = some false := by kernel_rfl
section
variable {X : Cx}
def z8x (K : PySem.W.Frag) : V → List V → Hp → VK → Prop := fun x vs H Q => ∃ l xs y j, x = .ref l ∧ vs = [y] ∧ SqL K H l xs ∧ z0e y = true ∧ xs.all z0e = true ∧
  (∃ z, xs[j]? = some z ∧ eqV z y = true) ∧ (∀ m z, m < j → xs[m]? = some z → eqV z y = false) ∧ Q (.int ((j : Nat) : Int)) H
theorem z0f : MtM X "list.index" (z8x X.K) := by
  intro pins s σ H x vs v us Q I rx rv h;obtain ⟨l, xs, y, j, rfl, rfl, hq, fy, fs, ⟨z, hz, ez⟩, hno, q⟩ := h;cases rx;obtain ⟨u, rfl, ru⟩ := rv.one;obtain ⟨its, r, pl, hsz⟩ := I.list hq;obtain ⟨⟨cls, dd, data, sl⟩, ho, hc, n, hd⟩ := pl.isList;simp only at hc hd;subst hc hd;have hl := r.length;have hn := z15;have hjx : j < xs.length := (List.getElem?_eq_some_iff.mp hz).1;have hji : j < its.length := by omega
  refine call_meets PySem.F.slot_list_index ⟨_, ho, rfl⟩ PySem.F.entry_list_index (PySem.F.args_list_index_2 _ _)
    (SeqAt.list_indexAt l its.toArray n dd sl u (eqU y) j (by rw [List.size_toArray]; exact hji) (by omega) ?_ ?_) ⟨ho, fun w hw => z0A ru fy r fs w (by simpa using hw), ⟨.int ((j : Nat) : Int), H, I.tok _, ⟨_, rfl⟩, q⟩⟩
  · obtain ⟨w, ew, rw'⟩ := r.get hz;have hh : its[j] = w := (List.getElem?_eq_some_iff.mp ew).2
    show eqU y its[j] = true
    rw [hh, z4U rw' (List.all_eq_true.mp fs z (List.mem_of_getElem? hz))];exact ez
  · intro m hm hlt;have hmi : m < its.length := by rw [List.size_toArray] at hm; exact hm
    have hmx : m < xs.length := by omega
    have hg : xs[m]? = some xs[m] := List.getElem?_eq_getElem hmx;obtain ⟨w, ew, rw'⟩ := r.get hg;have hh : its[m] = w := (List.getElem?_eq_some_iff.mp ew).2
    show eqU y its[m] = false
    rw [hh, z4U rw' (List.all_eq_true.mp fs _ (List.mem_of_getElem? hg))];exact hno m _ hlt hg
def zaH (K : PySem.W.Frag) : R2 := fun x y H Q => ∃ a b xs, x = .ref a ∧ y = .ref b ∧ SqL K H a xs ∧ SqL K H b [] ∧ Q (.bl xs.isEmpty) H
theorem z5n (hu1 : X.A.units + 1 < cLine) : OpR X (compareOp .Eq) (zaH X.K) := by
  intro pins s σ H x y v u Q I rx ry h;have hu : X.A.units < cLine := by omega
  obtain ⟨a, b, xs, rfl, rfl, ha, hb, q⟩ := h;cases rx;cases ry;obtain ⟨its, r, pl, hz⟩ := I.list ha;obtain ⟨its2, r2, pl2, _⟩ := I.list hb;have e2 : its2 = [] := r2.zero;subst e2;cases r with
  | nil => exact SeqAt.eq_listAt (e := fun _ => true) pl.isList pl2.isList rfl hu (fun j h1 _ => absurd h1 (by simp)) ⟨.bl true, H, I, by simp [RelV], q⟩
  | cons r1 r2 => exact SeqAt.eq_list_lengthsAt pl.isList pl2.isList (by simp) hu ⟨.bl false, H, I, rfl, q⟩
end
theorem ifT {c : Bool} {A B : Prop} (h : c = true) (a : A) : if c = true then A else B := by rw [if_pos h]; exact a
theorem ifF {c : Bool} {A B : Prop} (h : c = false) (b : B) : if c = true then A else B := by rw [if_neg (by rw [h]; exact Bool.false_ne_true)]; exact b
theorem qbl {Q : VK} {H : Hp} {a b : Bool} (e : a = b) (q : Q (.bl b) H) : Q (.bl a) H := by rw [e]; exact q
theorem z0U {i j : Int} : decide (V.int i = V.int j) = decide (i = j) := by
  rw [Bool.eq_iff_iff];simp
theorem jd {i j : Str} : decide (V.str i = V.str j) = decide (i = j) := by
  rw [Bool.eq_iff_iff];simp
section
variable {X : Cx} {a b : Expr} {ta tb : TE} {pos : Pos} {tA tB' : TT}
def zbw (ta tb : TE) : TE := fun σ H Q => ta σ H fun x H1 => ∃ c, x = .bl c ∧ ∃ d, (tb σ H1 fun y H2 => y = .bl d ∧ H2 = H1) ∧ Q (.bl (c && d)) H1
theorem za5 (ha : PE X a ta) (hb : PE X b tb) : PE X (.BoolOp .And [a, b] pos) (zbw ta tb) := by
  intro pins s σ H Q I h;refine BoolOp_and (thn (ha pins s σ H _ I h) fun v s1 ⟨x, H1, I1, r1, q1⟩ => ?_);obtain ⟨c, rfl, d, qb, q1⟩ := q1;cases r1;refine wpAny_truthy_bool ?_;cases c with
  | true =>
    refine BoolOp_one (thn (hb pins s1 σ H1 _ I1 qb) fun v2 s2 ⟨y, H2, I2, r2, e, e2⟩ => ?_);subst e e2;exact ⟨.bl d, H2, I2, r2, by rw [Bool.true_and] at q1; exact q1⟩
  | false => exact ⟨.bl false, H1, I1, rfl, by rw [Bool.false_and] at q1; exact q1⟩
def zbr (tA tB : TT) : TT := fun σ H Q => tA σ H fun c H1 => ∃ d, (tB σ H1 fun d' H2 => d' = d ∧ H2 = H1) ∧ Q (c && d) H1
def zch (tA tB : TT) : TT := fun σ H Q => tA σ H fun c H1 => ∃ d, (tB σ H1 fun d' H2 => d' = d ∧ H2 = H1) ∧ Q (c || d) H1
theorem z1O (ha : PT X a tA) (hb : PT X b tB') : PT X (.BoolOp .And [a, b] pos) (zbr tA tB') := by
  intro pins s σ H Q I h;refine isTrue_and (thn (ha pins s σ H _ I h) fun c s1 ⟨H1, I1, d, qb, q1⟩ => ?_);cases c with
  | true =>
    refine isTrue_and (thn (hb pins s1 σ H1 _ I1 qb) fun c2 s2 ⟨H2, I2, e, e2⟩ => ?_);subst e e2;rw [Bool.true_and] at q1;cases c2 with
    | true => exact isTrue_and_nil ⟨H2, I2, q1⟩
    | false => exact ⟨H2, I2, q1⟩
  | false => exact ⟨H1, I1, by rw [Bool.false_and] at q1; exact q1⟩
theorem z2c (ha : PT X a tA) (hb : PT X b tB') : PT X (.BoolOp .Or [a, b] pos) (zch tA tB') := by
  intro pins s σ H Q I h;refine isTrue_or (thn (ha pins s σ H _ I h) fun c s1 ⟨H1, I1, d, qb, q1⟩ => ?_);cases c with
  | false =>
    refine isTrue_or (thn (hb pins s1 σ H1 _ I1 qb) fun c2 s2 ⟨H2, I2, e, e2⟩ => ?_);subst e e2;rw [Bool.false_or] at q1;cases c2 with
    | false => exact isTrue_or_nil ⟨H2, I2, q1⟩
    | true => exact ⟨H2, I2, q1⟩
  | true => exact ⟨H1, I1, by rw [Bool.true_or] at q1; exact q1⟩
def zcm (c : TT) (t u : TS) : TS := fun D σ H => ∃ J : St → Hp → Prop, (c σ H fun b H1 => if b = true then t { D with nx := J } σ H1 else u { D with nx := J } σ H1) ∧ ∀ σ' H', J σ' H' → D.nx σ' H'
theorem kN {c : Expr} {a b : List Stmt} {tc : TT} {t u : TS} (hc : PT X c tc) (ha : PSs X a t) (hb : PSs X b u) : PS X (.If c a b pos) (zcm tc t u) := by
  intro pins s σ H D I h;obtain ⟨J, h, hJ⟩ := h;have fin : ∀ (f : Flow) (s' : Shared), SP X pins { D with nx := J } f s' → SP X pins D f s' := fun f s' q => by
    cases f with
    | next => obtain ⟨σ', H', I', q⟩ := q; exact ⟨σ', H', I', hJ _ _ q⟩
    | ret v => exact q
    | brk => exact q
    | cont => exact q
  refine wpAny_If (thn (hc pins s σ H _ I h) fun d s1 ⟨H1, I1, q1⟩ => ?_);cases d with
  | true => exact thn (ha pins s1 σ H1 _ I1 q1) fin
  | false => exact thn (hb pins s1 σ H1 _ I1 q1) fin
end
theorem z7g {c : TT} {tb : TS} {D : Ends} {σ : St} {H : Hp} (W : Nat → St → Hp → Prop) (m : Nat) (h0 : W m σ H)
    (hs : ∀ m σ H, W m σ H → c σ H fun b H1 => if b = true then ∃ N : St → Hp → Prop, (∀ σ' H', N σ' H' → ∃ m', m' < m ∧ W m' σ' H') ∧ tb { D with nx := N, ct := N, bk := D.nx } σ H1 else D.nx σ H1) : z8R c tb D σ H :=
  ⟨W, ⟨m, h0⟩, hs⟩
structure Kn (P : Program) (w : World) (K : PySem.W.Frag) (mg : Str → Option Value) (base : Heap) (k : Nat) (x : Str) (ps : List Str) (sp : Sp) : Prop where
  ex : ∃ (f : Addr) (fd : FuncData), FnOk P w K mg base CX0 k f fd ps sp ∧ mg x = some (.ref f) ∧ PySem.W.keepIn K (.ref f) = true ∧ Binds K fd ps []
theorem zX {X : Cx} {k : Nat} {x : Str} {ps : List Str} {sp : Sp} {e : Expr} {es : List Expr} {t : TA} {p pos : Pos} (C : Kn X.prog X.w X.K X.mg X.base k x ps sp) (hr : Room k X.A) (hg : Gl X x) (ha : PA X (e :: es) t)
    (hdb : (x == ("__debug__" : Str)) = false := by decide) (he : starEach (e :: es) X.env = (false, eval e X.env) :: starEach es X.env := by rfl) (hpl : (backTo pos (starEach es X.env)).any (·.1) = false := by rfl) :
    PE X (.Call (.Name x p) (e :: es) [] pos) (z8F sp [] E0 t) := by
  obtain ⟨f, fd, F, hm, hk, hb⟩ := C.ex;exact z7b F hr hg hm hk hb .nil zbp ha hdb he hpl
theorem z79 {α : Type} (gs : List α) (x : α) : (gs ++ [x])[(gs ++ [x]).length - 1]? = some x := by simp
theorem z1j {α : Type} {l : List α} (h : l ≠ []) : ∃ gs x, l = gs ++ [x] := ⟨l.dropLast, l.getLast h, (List.dropLast_concat_getLast h).symm⟩
theorem yc {α : Type} {x : α} {r : List α} : atI (x :: r) 0 = some x := jr (j := 0) rfl
theorem yE {α : Type} {x y : α} {r : List α} : atI (x :: y :: r) 1 = some y := jr (j := 1) rfl
theorem yO {α : Type} {x y z : α} {r : List α} : atI (x :: y :: z :: r) 2 = some z := jr (j := 2) rfl
theorem z4x {α : Type} {xs : List α} {i : Int} {v : α} (h0 : 0 ≤ i) (h : xs[i.toNat]? = some v) : atI xs i = some v := by
  have e : i = ((i.toNat : Nat) : Int) := by omega
  rw [e];exact jr h
theorem yX (ss : List Str) : (ss.map V.str).all z0e = true := by
  rw [List.all_eq_true];intro x hx;obtain ⟨s, _, rfl⟩ := List.mem_map.mp hx
  rfl
theorem kv {ss : List Str} {s : Str} (h : s ∈ ss) : (∃ z, (ss.map V.str)[ss.idxOf s]? = some z ∧ eqV z (.str s) = true) ∧ ∀ m z, m < ss.idxOf s → (ss.map V.str)[m]? = some z → eqV z (.str s) = false := by
  have hj : ss.idxOf s < ss.length := List.idxOf_lt_length_iff.mpr h;refine ⟨⟨.str s, ?_, ?_⟩, fun m z hm hz => ?_⟩
  · rw [List.getElem?_map, List.getElem?_eq_getElem hj, List.getElem_idxOf hj]
    rfl
  · show (s == s) = true
    exact beq_self_eq_true s
  · have hml : m < ss.length := by omega
    rw [List.getElem?_map, List.getElem?_eq_getElem hml] at hz;cases hz
    show (ss[m] == s) = false
    have h2 : m < ss.findIdx (· == s) := hm;exact List.not_of_lt_findIdx h2
end L2

namespace L2
open PySem PySem.Spec PyProof.Rows
theorem z1L {prog : Program} {w : World} {A : Around} {R : Result → Shared → Prop} {s : Shared} {elt target iter : Expr} {ifs : List Expr} {scope : Scope} {pos : Pos} {it acc : Value} {env : Env} (I : Nat → Shared → Prop)
    (turn : ∀ n s, I n s → wpAny (model prog w) A (pyNext it) (fun r s₁ => match r with
      | none => R (.ok .next) s₁
      | some v => wpAny (model prog w) A (letOwnedTupleGo target it v) (fun _ s₁' => wpAny (model prog w) A (assign target env v) (fun _ s₂ =>
          wpAny (model prog w) A (forIn ifs true fun c r => if r = true then do let ok ← isTrue c env (eval c env); pure (ForInStep.yield ok) else pure (ForInStep.yield r)) (fun ok s₃ =>
            if ok = true then wpAny (model prog w) A (eval elt env) (fun x s₄ =>
              wpAny (model prog w) A (call (.builtin "list.append") [acc, x]) (fun _ s₅ => ∃ m, m < n ∧ I m s₅) (notedBy (model prog w) A env fun e s' => R (.error e) s') s₄) (notedBy (model prog w) A env fun e s' => R (.error e) s') s₃
            else ∃ m, m < n ∧ I m s₃) (notedBy (model prog w) A env fun e s' => R (.error e) s') s₂) (notedBy (model prog w) A env fun e s' => R (.error e) s') s₁') (notedBy (model prog w) A env fun e s' => R (.error e) s') s₁) (notedBy (model prog w) A env fun e s' => R (.error e) s') s)
    (n : Nat) (h : I n s) :
    codeAny (model prog w) A (.compLoop (.ListComp elt [⟨target, iter, ifs, 0⟩] scope pos) 0 it acc env) R s := by
  refine codeAny_loop rfl I (fun n s hI => ?_) n h
  show wpAny _ A ((compTurn (.ListComp elt [⟨target, iter, ifs, 0⟩] scope pos) 0 it acc env).onRaise (fun x => do noteFrame x env; theTreesLotGoes x)) _ _ s
  refine wpAny_noted ?_;rw [compTurn_list];refine wpAny_bind (wpAny_standAt (wpAny_bind (wpAny_mono (turn n s hI) (fun r s₁ h₁ => ?_) fun _ _ h' => h')));cases r with
  | none => exact wpAny_pure h₁
  | some v =>
    refine wpAny_bind (wpAny_mono h₁ (fun _ s₁' h₁' => ?_) fun _ _ h' => h');refine wpAny_bind (wpAny_mono h₁' (fun _ s₂ h₂ => wpAny_bind (wpAny_mono h₂ (fun ok s₃ h₃ => ?_) fun _ _ h' => h')) fun _ _ h' => h');cases ok with
    | false => exact wpAny_pure ⟨rfl, h₃⟩
    | true =>
      exact wpAny_bind (wpAny_bind (wpAny_mono h₃ (fun x s₄ h₄ => wpAny_bind (wpAny_mono h₄ (fun _ s₅ h₅ => wpAny_pure (wpAny_pure ⟨rfl, h₅⟩)) fun _ _ h' => h')) fun _ _ h' => h'))
def kD (env : Env) : List (Str × NameKind) → List (Str × Addr) → List (Str × Addr)
  | [], acc => acc
  | (n, k) :: r, acc => kD env r (if k == .free then (n, (env.cells.lookup n).getD 0) :: acc else acc)
theorem z6P {env : Env} (f : Str × NameKind → List (Str × Addr) → Sem (ForInStep (List (Str × Addr))))
    (hf : ∀ name kind cells, f (name, kind) cells = if kind == .free then (do let a ← cellOf env name; pure (.yield ((name, a) :: cells))) else pure (.yield cells)) :
    ∀ (names : List (Str × NameKind)) (acc : List (Str × Addr)), (∀ y ∈ names, y.2 = .free → ∃ c, env.cells.lookup y.1 = some c) → forIn names acc f = (pure (kD env names acc) : Sem (List (Str × Addr)))
  | [], acc, _ => by rw [List.forIn_nil]; rfl
  | (n, k) :: r, acc, h => by
    rw [List.forIn_cons, hf];have ih := fun acc => z6P f hf r acc fun y hy => h y (List.mem_cons_of_mem _ hy)
    unfold kD;cases hk : k == NameKind.free with
    | true =>
      obtain ⟨c, hc⟩ := h (n, k) List.mem_cons_self (beq_iff_eq.mp hk);have e : cellOf env n = (pure c : Sem Addr) := by
        unfold cellOf;have hc' : env.cells.lookup n = some c := hc;rw [hc']
      have hc' : env.cells.lookup n = some c := hc;simp only [if_true, e, pure_bind, hc', Option.getD_some];exact ih _
    | false =>
      simp only [Bool.false_eq_true, if_false, pure_bind];exact ih _
theorem z0p {scope : Scope} {env : Env} (h : ∀ y ∈ scope.names, y.2 = .free → ∃ c, env.cells.lookup y.1 = some c) : closureFor scope env = pure (kD env scope.names []) := by
  simp only [closureFor];rw [z6P (env := env) _ (fun name kind cells => by cases hk : kind == NameKind.free <;> simp [hk]) scope.names [] h]
  rfl
theorem z0z {env : Env} : ∀ (names : List (Str × NameKind)) (acc : List (Str × Addr)), (∀ y ∈ names, y.2 = .free → ∃ c, env.cells.lookup y.1 = some c) → (∀ y c, acc.lookup y = some c → env.cells.lookup y = some c) →
    ∀ y c, (kD env names acc).lookup y = some c → env.cells.lookup y = some c
  | [], _, _, ha => ha
  | (n, k) :: r, acc, h, ha => by
    unfold kD;refine z0z r _ (fun y hy => h y (List.mem_cons_of_mem _ hy)) fun y c e => ?_
    cases hk : k == NameKind.free with
    | true =>
      rw [hk, if_pos rfl, List.lookup_cons] at e;obtain ⟨c', hc⟩ := h (n, k) List.mem_cons_self (beq_iff_eq.mp hk);have hc' : env.cells.lookup n = some c' := hc;cases hy : y == n with
      | true =>
        rw [hy] at e;rw [hc'] at e;cases e;rw [beq_iff_eq.mp hy];exact hc'
      | false =>
        rw [hy] at e;exact ha y c e
    | false =>
      rw [hk, if_neg Bool.false_ne_true] at e;exact ha y c e
theorem z3b {env : Env} : ∀ (names : List (Str × NameKind)) (acc : List (Str × Addr)) (y : Str), ((y, NameKind.free) ∈ names ∨ ∃ c, acc.lookup y = some c) → ∃ c, (kD env names acc).lookup y = some c
  | [], _, y, h => by
    rcases h with h | h
    · cases h
    · exact h
  | (n, k) :: r, acc, y, h => by
    unfold kD;refine z3b r _ y ?_;rcases h with h | ⟨c, h⟩
    · rcases List.mem_cons.mp h with e | h
      · cases e;refine .inr ?_;simp [List.lookup_cons]
      · exact .inl h
    · refine .inr ?_;by_cases hk : (k == NameKind.free) = true
      · rw [if_pos hk, List.lookup_cons];cases y == n with
        | true => exact ⟨_, rfl⟩
        | false => exact ⟨c, h⟩
      · rw [if_neg hk];exact ⟨c, h⟩
theorem z1l : ∀ (names : List (Str × NameKind)) (h : Heap) (acc : List (Str × Addr)) (y : Str) (c : Addr), (cellsFrom h.objs.size names acc).lookup y = some c →
    ((pushCells h names).IsCell c none ∧ h.objs.size ≤ c ∧ (y, NameKind.cell) ∈ names) ∨ acc.lookup y = some c
  | [], _, _, _, _, e => .inr e
  | (n, k) :: r, h, acc, y, c, e => by
    unfold cellsFrom at e;unfold pushCells;by_cases hk : (k == NameKind.cell) = true
    · rw [if_pos hk] at e ⊢;have e' : (cellsFrom (h.push { cls := .type "cell", data := .cell none }).objs.size r ((n, h.objs.size) :: acc)).lookup y = some c := by rw [Heap.size_push]; exact e
      rcases z1l r (h.push { cls := .type "cell", data := .cell none }) ((n, h.objs.size) :: acc) y c e' with ⟨a1, a2, a3⟩ | a
      · rw [Heap.size_push] at a2;exact .inl ⟨a1, by omega, List.mem_cons_of_mem _ a3⟩
      · rw [List.lookup_cons] at a;cases hy : y == n with
        | true =>
          rw [hy] at a;cases a;refine .inl ⟨Heap.IsCell.keeps ⟨_, Heap.get?_push_size _ rfl, rfl⟩ fun b o q => pushCells_keeps r _ b o q, Nat.le_refl _, ?_⟩;rw [beq_iff_eq.mp hy, beq_iff_eq.mp hk];exact List.mem_cons_self
        | false =>
          rw [hy] at a;exact .inr a
    · rw [if_neg hk] at e ⊢;rcases z1l r h acc y c e with ⟨a1, a2, a3⟩ | a
      · exact .inl ⟨a1, a2, List.mem_cons_of_mem _ a3⟩
      · exact .inr a
theorem z3h : ∀ (names : List (Str × NameKind)) (n : Nat) (acc : List (Str × Addr)) (y : Str), (y, NameKind.cell) ∉ names → (cellsFrom n names acc).lookup y = acc.lookup y
  | [], _, _, _, _ => rfl
  | (m, k) :: r, n, acc, y, h => by
    unfold cellsFrom;by_cases hk : (k == NameKind.cell) = true
    · rw [if_pos hk, z3h r (n + 1) _ y fun z => h (List.mem_cons_of_mem _ z), List.lookup_cons];have : (y == m) = false := beq_eq_false_iff_ne.mpr fun z => h (by rw [z, beq_iff_eq.mp hk]; exact List.mem_cons_self)
      rw [this]
    · rw [if_neg hk];exact z3h r n acc y fun z => h (List.mem_cons_of_mem _ z)
theorem z4W : ∀ (names : List (Str × NameKind)) (n : Nat) (acc : List (Str × Addr)) (y : Str), ((y, NameKind.cell) ∈ names ∨ ∃ c, acc.lookup y = some c) → ∃ c, (cellsFrom n names acc).lookup y = some c
  | [], _, _, _, h => by
    rcases h with h | h
    · cases h
    · exact h
  | (m, k) :: r, n, acc, y, h => by
    unfold cellsFrom;by_cases hk : (k == NameKind.cell) = true
    · rw [if_pos hk];refine z4W r (n + 1) _ y ?_;rcases h with h | ⟨c, h⟩
      · rcases List.mem_cons.mp h with e | h
        · cases e;exact .inr ⟨n, by simp [List.lookup_cons]⟩
        · exact .inl h
      · refine .inr ?_;rw [List.lookup_cons];cases y == m with
        | true => exact ⟨_, rfl⟩
        | false => exact ⟨c, h⟩
    · rw [if_neg hk];refine z4W r n acc y ?_;rcases h with h | h
      · rcases List.mem_cons.mp h with e | h
        · cases e;exact absurd rfl hk
        · exact .inl h
      · exact .inr h
theorem z4E : ∀ (names : List (Str × NameKind)) (n : Nat) (acc : List (Str × Addr)), (∀ y c, acc.lookup y = some c → c < n) → (∀ y z c, acc.lookup y = some c → acc.lookup z = some c → y = z) →
    ∀ y z c, (cellsFrom n names acc).lookup y = some c → (cellsFrom n names acc).lookup z = some c → y = z
  | [], _, _, _, hi => hi
  | (m, k) :: r, n, acc, hb, hi => by
    unfold cellsFrom;by_cases hk : (k == NameKind.cell) = true
    · rw [if_pos hk];refine z4E r (n + 1) _ (fun y c e => ?_) fun y z c e1 e2 => ?_
      · rw [List.lookup_cons] at e;cases hy : y == m with
        | true => rw [hy] at e; cases e; exact Nat.lt_succ_self n
        | false => rw [hy] at e; exact Nat.lt_succ_of_lt (hb y c e)
      · rw [List.lookup_cons] at e1 e2;cases hy : y == m with
        | true =>
          rw [hy] at e1;cases e1;cases hz : z == m with
          | true => rw [beq_iff_eq.mp hy, beq_iff_eq.mp hz]
          | false => rw [hz] at e2; exact absurd (hb z n e2) (Nat.lt_irrefl _)
        | false =>
          rw [hy] at e1;cases hz : z == m with
          | true => rw [hz] at e2; cases e2; exact absurd (hb y n e1) (Nat.lt_irrefl _)
          | false => rw [hz] at e2; exact hi y z c e1 e2
    · rw [if_neg hk];exact z4E r n acc hb hi
theorem z0Z {M : Model} {A : Around} {E : Value → Shared → Prop} {s : Shared} {scope : Scope} {globals : Addr} {cl : List (Str × Addr)} {qual : Str} {env : Env} {Q : Env → Shared → Prop}
    (hQ : Q { scope := scope, locals := s.heap.objs.size, globals := globals, cells := cellsFrom (s.heap.push { cls := .type "dict", data := .dict #[] }).objs.size scope.names cl, qual := qual, func := none, code := env.code, frame := env.frame, builtins := env.builtins }
      { s with heap := pushCells (s.heap.push { cls := .type "dict", data := .dict #[] }) scope.names }) :
    wpAny M A (newFunctionEnv scope globals cl [] qual none .none (some env)) Q E s := by
  simp only [newFunctionEnv, Option.isSome_some, if_true];refine wpAny_bind (wpAny_alloc ?_);refine wpAny_bind (wpAny_layCells _ (fun name kind cells => by cases hkc : kind == NameKind.cell <;> simp [hkc]) _ _ _ _ ?_);rw [List.forIn_nil];exact wpAny_bind (wpAny_pure (wpAny_pure hQ))
abbrev j9 (X : Cx) (scope : Scope) (NY : List Str) (C : Addr) (cells : List (Str × Addr)) (s₀ : Shared) (H₀ : Hp) (ex : List Addr) (pins : List (Addr × Obj)) : Cx :=
  { prog := X.prog, w := X.w, K := X.K, mg := X.mg, base := X.base, A := X.A, N := NY, s₀ := s₀, H₀ := H₀, env := compEnvC scope cells C X.env, outer := X.stack, stack := X.stack, ex := ex, fn := fun y => decide ((y, NameKind.cell) ∈ scope.names), calm := X.calm, pn := X.pn ++ pins, xe := fun _ _ => False }
structure CompSc (X : Cx) (scope : Scope) (x : Str) (fr : List Str) (ix : List Nat) : Prop where
  kind : scope.kind = .function
  names : ∀ y ∈ scope.names, y.2 = .local → scope.names.lookup y.1 = some .local
  uniq : (scope.names.map (·.1)).Nodup
  xloc : scope.names.lookup x = some .local ∨ scope.names.lookup x = some .cell
  clo : ∀ y ∈ scope.names, y.2 = .free → X.env.kindOf y.1 = some .cell ∨ X.env.kindOf y.1 = some .free
  free : ∀ (k : Nat) (y : Str), fr[k]? = some y → ∃ j, ix[k]? = some j ∧ X.N[j]? = some y ∧ scope.names.lookup y = some .free
  nd : (x :: fr).Nodup
  len : fr.length = ix.length
def sub (σ : St) (ix : List Nat) (x : Option V) : St := x :: ix.map fun j => (σ[j]?).getD none
def z6G (X : Cx) (ifs : List Expr) (t : TT) : Prop :=
  ∀ (pins : List (Addr × Obj)) (s : Shared) (σ : St) (H : Hp) (Q : Bool → Hp → Prop), Inv X pins σ H s → t σ H Q →
    wpAny (model X.prog X.w) X.A (forIn ifs true fun c r => if r = true then do let ok ← isTrue c X.env (eval c X.env); pure (ForInStep.yield ok) else pure (ForInStep.yield r)) (TP X pins σ Q) X.xe s
def z5w : TT := fun _ H Q => Q true H
theorem kf {X : Cx} : z6G X [] z5w := fun _ _ _ H _ I h => wpAny_tests_nil ⟨H, I, h⟩
theorem z4V {X : Cx} {c : Expr} {t : TT} (h : PT X c t) : z6G X [c] t := fun pins s σ H Q I q => wpAny_tests_one (h pins s σ H Q I q)
theorem jQ {env : Env} : ∀ {names : List (Str × NameKind)} {y : Str} {k : NameKind}, names.lookup y = some k →
    (names.map fun (n, k) => if (k == NameKind.free && env.scope.kind == .function && env.kindOf n == some .cell) then (n, NameKind.cell) else (n, k)).lookup y = some (if (k == NameKind.free && env.scope.kind == .function && env.kindOf y == some .cell) then NameKind.cell else k)
  | [], _, _, h => by simp at h
  | (n, k') :: r, y, k, h => by
    rw [List.lookup_cons] at h;rw [List.map_cons];cases hy : y == n with
    | true =>
      rw [hy] at h;cases h;have e : y = n := beq_iff_eq.mp hy;subst e;by_cases hc : (k' == NameKind.free && env.scope.kind == .function && env.kindOf y == some .cell) = true
      · simp only [hc, if_true, List.lookup_cons, beq_self_eq_true]
      · simp only [hc, if_false, List.lookup_cons, beq_self_eq_true];simp
    | false =>
      rw [hy] at h;have ih := jQ (env := env) (names := r) h;by_cases hc : (k' == NameKind.free && env.scope.kind == .function && env.kindOf n == some .cell) = true
      · simp only [hc, if_true, List.lookup_cons, hy];exact ih
      · show List.lookup y ((if (k' == NameKind.free && env.scope.kind == .function && env.kindOf n == some .cell) = true then (n, NameKind.cell) else (n, k')) :: _) = _
        rw [if_neg hc, List.lookup_cons, hy];exact ih
theorem z1q {env : Env} : ∀ {names : List (Str × NameKind)} {y : Str} {k : NameKind},
    (names.map fun (n, k) => if (k == NameKind.free && env.scope.kind == .function && env.kindOf n == some .cell) then (n, NameKind.cell) else (n, k)).lookup y = some k → ∃ k', names.lookup y = some k' ∧ k = (if (k' == NameKind.free && env.scope.kind == .function && env.kindOf y == some .cell) then NameKind.cell else k')
  | names, y, k, h => by
    cases e : names.lookup y with
    | some k' =>
      have := jQ (env := env) e;rw [this] at h;exact ⟨k', rfl, (Option.some.inj h).symm⟩
    | none =>
      exfalso
      induction names with
      | nil => simp at h
      | cons p r ih =>
        obtain ⟨n, k'⟩ := p;rw [List.lookup_cons] at e;cases hy : y == n with
        | true => rw [hy] at e; cases e
        | false =>
          rw [hy] at e;refine ih ?_ e;rw [List.map_cons] at h;by_cases hc : (k' == NameKind.free && env.scope.kind == .function && env.kindOf n == some .cell) = true
          · simpa only [hc, if_true, List.lookup_cons, hy] using h
          · simpa [hc, List.lookup_cons, hy] using h
theorem lookup_mem {α : Type} {l : List (Str × α)} {n : Str} {c : α} (h : l.lookup n = some c) : (n, c) ∈ l := PySem.mem_of_lookup h
theorem z4Q : ∀ (names : List (Str × NameKind)) (n : Nat) (acc : List (Str × Addr)) (y : Str) (c : Addr), (y, NameKind.cell) ∈ names → (cellsFrom n names acc).lookup y = some c → n ≤ c
  | [], _, _, _, _, h, _ => by cases h
  | (m, k) :: r, n, acc, y, c, h, e => by
    unfold cellsFrom at e;by_cases hr : (y, NameKind.cell) ∈ r
    · by_cases hk : (k == NameKind.cell) = true
      · rw [if_pos hk] at e;exact Nat.le_of_succ_le (z4Q r (n + 1) _ y c hr e)
      · rw [if_neg hk] at e;exact z4Q r n acc y c hr e
    · rcases List.mem_cons.mp h with q | q
      · cases q;rw [if_pos (beq_self_eq_true _), z3h r (n + 1) _ _ hr, List.lookup_cons, beq_self_eq_true] at e;cases e;exact Nat.le_refl _
      · exact absurd q hr
theorem z2j : ∀ {names : List (Str × NameKind)} {y : Str} {k k' : NameKind}, (names.map (·.1)).Nodup → names.lookup y = some k → (y, k') ∈ names → k = k'
  | [], _, _, _, _, h, _ => by simp at h
  | (n, kk) :: r, y, k, k', hn, h, hm => by
    rw [List.map_cons] at hn;obtain ⟨h1, h2⟩ := List.nodup_cons.mp hn;rw [List.lookup_cons] at h;cases hy : y == n with
    | true =>
      rw [hy] at h;cases h;rcases List.mem_cons.mp hm with e | hm
      · cases e; rfl
      · exact absurd (List.mem_map.mpr ⟨_, hm, rfl⟩) (by rw [beq_iff_eq.mp hy]; exact h1)
    | false =>
      rw [hy] at h;rcases List.mem_cons.mp hm with e | hm
      · cases e;rw [beq_self_eq_true] at hy;cases hy
      · exact z2j h2 h hm
section
variable {X : Cx} {pins : List (Addr × Obj)} {σ : St} {H : Hp} {s : Shared} {scope : Scope} {x : Str} {fr : List Str} {ix : List Nat} {fp : List Addr}
abbrev zP : Obj := { cls := .type "list", data := .seq ([] : List Value).toArray }
abbrev jM : Obj := { cls := .type "dict", data := .dict #[] }
theorem z7s (S : CompSc X scope x fr ix) (I : Inv X pins σ H s) (hfp : ∀ b ∈ fp, z19 X pins H b) (hlt : ∀ b ∈ fp, b < s.heap.objs.size) :
    Inv (j9 X scope (x :: fr) (s.heap.push zP).objs.size (cellsFrom ((s.heap.push zP).push jM).objs.size scope.names (kD X.env scope.names [])) s H fp pins) [] (sub σ ix none) H
      { s with heap := pushCells ((s.heap.push zP).push jM) scope.names } := by
  have clo' : ∀ y ∈ scope.names, y.2 = .free → ∃ c, X.env.cells.lookup y.1 = some c := fun y hy hk => I.ok.has y.1 (S.clo y hy hk)
  have clook : ∀ y c, (kD X.env scope.names []).lookup y = some c → X.env.cells.lookup y = some c := z0z scope.names [] clo' fun y c e => by simp at e
  have chas : ∀ y, (y, NameKind.free) ∈ scope.names → ∃ c, (kD X.env scope.names []).lookup y = some c := fun y hy => z3b scope.names [] y (.inl hy)
  have cb : ∀ y c, (kD X.env scope.names []).lookup y = some c → c < s.heap.objs.size := fun y c e => by
    obtain ⟨v, q⟩ := I.cell y c (clook y c e);exact q.lt
  have z1 : (s.heap.push zP).objs.size = s.heap.objs.size + 1 := Heap.size_push ..;have z2 : ((s.heap.push zP).push jM).objs.size = s.heap.objs.size + 2 := by rw [Heap.size_push, z1]
  have up : ∀ b o, s.heap.get? b = some o → (pushCells ((s.heap.push zP).push jM) scope.names).get? b = some o := fun b o e => pushCells_keeps _ _ b o (Heap.get?_push_of_some _ (Heap.get?_push_of_some _ e))
  have cold : ∀ y c, (cellsFrom ((s.heap.push zP).push jM).objs.size scope.names (kD X.env scope.names [])).lookup y = some c →
      ((pushCells ((s.heap.push zP).push jM) scope.names).IsCell c none ∧ s.heap.objs.size + 2 ≤ c ∧ (y, NameKind.cell) ∈ scope.names) ∨ X.env.cells.lookup y = some c := fun y c e => by
    rcases z1l scope.names ((s.heap.push zP).push jM) (kD X.env scope.names []) y c e with ⟨a1, a2, a3⟩ | a
    · rw [z2] at a2;exact .inl ⟨a1, a2, a3⟩
    · exact .inr (clook y c a)
  have ok : (j9 X scope (x :: fr) (s.heap.push zP).objs.size (cellsFrom ((s.heap.push zP).push jM).objs.size scope.names (kD X.env scope.names [])) s H fp pins).Ok := by
    refine ⟨I.ok.mod, S.kind, I.ok.glob, I.ok.blt, ?_, ?_, ?_, ?_, I.ok.hd, I.ok.frames, .inl rfl, ?_, I.bs, Nat.le_trans I.ok.bsz I.sz, ?_, ?_, I.stack, I.stkFree⟩
    · show s.heap.objs.size ≤ (s.heap.push zP).objs.size
      rw [z1];omega
    · exact z4E scope.names _ _ (fun y c e => by rw [z2]; exact Nat.lt_of_lt_of_le (cb y c e) (Nat.le_add_right _ 2)) fun y z c e1 e2 => I.ok.inj y z c (clook y c e1) (clook z c e2)
    · intro y hy;refine z4W scope.names _ _ y ?_;have hy' : (relabel scope X.env).names.lookup y = some .cell ∨ (relabel scope X.env).names.lookup y = some .free := hy;rcases hy' with hy' | hy'
      · obtain ⟨k', e, ek⟩ := z1q hy';by_cases hc : (k' == NameKind.free && X.env.scope.kind == .function && X.env.kindOf y == some .cell) = true
        · rw [Bool.and_eq_true, Bool.and_eq_true] at hc;have e2 := beq_iff_eq.mp hc.1.1;subst e2;exact .inr (chas y (lookup_mem e))
        · rw [if_neg hc] at ek;subst ek;exact .inl (lookup_mem e)
      · obtain ⟨k', e, ek⟩ := z1q hy';by_cases hc : (k' == NameKind.free && X.env.scope.kind == .function && X.env.kindOf y == some .cell) = true
        · rw [if_pos hc] at ek;cases ek
        · rw [if_neg hc] at ek;subst ek;exact .inr (chas y (lookup_mem e))
    · intro y c hy e;have hm : (y, NameKind.cell) ∈ scope.names := of_decide_eq_true hy;have := z4Q scope.names _ _ y c hm e
      show s.heap.objs.size ≤ c
      rw [z2] at this;omega
    · intro b hb;have hb' := hlt b hb;refine ⟨?_, fun y c e => ?_⟩
      · show b ≠ (s.heap.push zP).objs.size
        rw [z1];exact Nat.ne_of_lt (Nat.lt_succ_of_lt hb')
      · rcases cold y c e with ⟨_, a2, _⟩ | a
        · exact Nat.ne_of_gt (Nat.lt_of_lt_of_le hb' (Nat.le_trans (Nat.le_add_right _ 2) a2))
        · exact (hfp b hb).2.2.2.2.1 y c a
    · intro b o e hb;obtain ⟨_, _, _, f3, _⟩ := hfp b hb;rcases f3 with f3 | f3
      · exact I.ok.noex b o e f3
      · exact absurd (Nat.lt_of_lt_of_le (Heap.lt_size e) (Nat.le_trans I.ok.bsz f3)) (Nat.lt_irrefl _)
    · intro b hb z;obtain ⟨_, f1, f2, _⟩ := hfp b hb;rcases List.mem_cons.mp (I.stkSub b z) with e | e
      · exact f1 e
      · exact f2 e
  refine ⟨ok, rfl, I.bare, Un.kept up, ⟨_, (Heap.Ns.new (s.heap.push zP) (.type "dict")).keeps (pushCells_keeps _ _), fun i y v e1 e2 e3 => ?_⟩, fun y c e => ?_, ?_, fun y c e => ?_, fun p hp => ?_, I.hok.kept up, ?_⟩
  · cases i with
    | zero => cases e2
    | succ k =>
      have e1' : fr[k]? = some y := e1;have e2' : (ix.map fun j => (σ[j]?).getD none)[k]? = some (some v) := e2;obtain ⟨j, hj, hN, hsc⟩ := S.free k y e1';rw [List.getElem?_map, hj] at e2';have e4 : (σ[j]?).getD none = some v := Option.some.inj e2';have e5 : σ[j]? = some (some v) := by
        cases q : σ[j]? with
        | none => rw [q] at e4; cases e4
        | some o => rw [q] at e4; exact congrArg some e4
      have hk := S.clo (y, NameKind.free) (lookup_mem hsc) rfl;obtain ⟨m, hn, hl⟩ := I.loc;obtain ⟨u, ru, lk⟩ := hl j y v hN e5 (.inr hk);refine ⟨u, ru, .inr ⟨?_, ?_⟩⟩
      · have q := jQ (env := X.env) hsc
        show (relabel scope X.env).names.lookup y = _ ∨ (relabel scope X.env).names.lookup y = _
        rw [show (relabel scope X.env).names.lookup y = _ from q];by_cases hc : (NameKind.free == NameKind.free && X.env.scope.kind == .function && X.env.kindOf y == some .cell) = true
        · rw [if_pos hc]; exact .inl rfl
        · rw [if_neg hc]; exact .inr rfl
      · rcases lk with ⟨lk, _⟩ | ⟨_, c, hc, hcell⟩
        · rcases hk with hk | hk
          · rw [show X.env.kindOf y = _ from hk] at lk; cases lk
          · rw [show X.env.kindOf y = _ from hk] at lk; cases lk
        · refine ⟨c, ?_, hcell.keeps up⟩;have hno : (y, NameKind.cell) ∉ scope.names := fun z => by
            have := z2j S.uniq hsc z;cases this
          show (cellsFrom _ scope.names _).lookup y = some c
          rw [z3h scope.names _ _ y hno];obtain ⟨c', hc'⟩ := chas y (lookup_mem hsc);have := clook y c' hc';rw [hc] at this;cases this;exact hc'
  · rcases cold y c e with ⟨a1, _, _⟩ | a
    · exact ⟨none, a1⟩
    · obtain ⟨v, q⟩ := I.cell y c a;exact ⟨v, q.keeps up⟩
  · show H (s.heap.push zP).objs.size = none
    exact I.hok.fresh (by rw [z1]; omega)
  · rcases cold y c e with ⟨_, a2, _⟩ | a
    · exact I.hok.fresh (by omega)
    · exact I.freeC y c a
  · have hp' : p ∈ X.pn ++ pins := by simpa using hp
    obtain ⟨e, n, ne, nf, d⟩ := I.pin p hp';have hpl := Heap.lt_size e;refine ⟨up _ _ e, n, ?_, fun z => ?_, d⟩
    · show p.1 ≠ (s.heap.push zP).objs.size
      rw [z1];exact Nat.ne_of_lt (Nat.lt_succ_of_lt hpl)
    · rcases List.mem_cons.mp (I.stkSub p.1 z) with q | q
      · exact ne q
      · exact nf q
  · show (sub σ ix none).length = (x :: fr).length
    unfold sub;rw [List.length_cons, List.length_map, List.length_cons, S.len]
theorem z5e {σ4 : St} {H4 : Hp} {s4 : Shared} {cells : List (Str × Addr)} {NY : List Str} {C D : Addr} {pl : List (Addr × Obj)} {its : List Value} {ys : List V} {k : Nat} {h' : Heap} (I : Inv X pins σ H s) (hfp : ∀ b ∈ fp, z19 X pins H b)
    (I4 : Inv (j9 X scope NY C cells s H fp pins) pl σ4 H4 s4) (hD : s.heap.objs.size ≤ D) (hC : s.heap.objs.size ≤ C) (hDC : D ≠ C) (nD : H4 D = none) (oD : s4.heap.get? D = some { cls := .type "list", data := .seq its.toArray k }) (r : jb ys its) (hz : ys.length ≤ sizeLine)
    (sb : Heap.SameBut C s4.heap h') : Inv X pins σ (upd H4 D (.lst ys)) { s4 with heap := h' } := by
  have u : Un (frs X.stack) fp H H4 s.heap s4.heap := I4.base;have ne : ∀ b o, s.heap.get? b = some o → b ≠ C ∧ b ≠ D := fun b o e => by
    have := Heap.lt_size e;exact ⟨Nat.ne_of_lt (Nat.lt_of_lt_of_le this hC), Nat.ne_of_lt (Nat.lt_of_lt_of_le this hD)⟩
  have hHD : H D = none := I.hok.fresh hD;have nC : H4 C = none := I4.free;have sm : ∀ b, b ≠ C → h'.get? b = s4.heap.get? b := fun b hb => sb.2 b hb
  have u' : Un (frs X.stack) fp H (upd H4 D (.lst ys)) s.heap h' := by
    refine ⟨fun b o e n hb hx => ?_, fun b o e n hb hx => ?_, fun b o e n hx => ?_, fun b o e hx => ?_, fun b xs e => ?_, fun b o w e => ?_, fun b ps e => ?_⟩
    · rw [sm b (ne b o e).1];exact u.keep b o e n hb hx
    · rw [sm b (ne b o e).1];exact u.slot b o e n hb hx
    · rw [zO (ne b o e).2];exact u.free b o e n hx
    · rw [sm b (ne b o e).1];exact u.there b o e hx
    · rw [zO (zy e hHD)];exact u.tups b xs e
    · rw [zO (zy e hHD)];exact u.frzs b o w e
    · rw [zO (zy e hHD)];exact u.tbls b ps e
  have hok : HOk X.prog X.w (upd H4 D (.lst ys)) h' := fun b o e => by
    by_cases hb : b = D
    · subst hb;rw [zU] at e;cases e;exact ⟨hz, its, k, r, (sm b hDC).trans oD⟩
    · rw [zO hb] at e;refine (I4.hok b o e).stay (fun c v hc q => ?_) (fun c q => ?_) fun c xs q => ?_
      · have hcC : c ≠ C := by
          rintro rfl;rcases hc with z | z
          · rw [← z, nC] at e; cases e
          · rw [nC] at z; cases z
        exact (sm c hcC).trans q
      · rw [zO (zy q nD)];exact q
      · rw [zO (zy q nD)];exact q
  exact I.call' (s' := { s4 with heap := h' }) (ch := fp) I4.os u' hok I4.bare fun b hb => by
    obtain ⟨_, f1, _, f3, f4, f5⟩ := hfp b hb;exact ⟨f3, f1, f4, f5⟩
end
def z0P (J : It) (σ : St) (ix : List Nat) (tc : TT) (te : TE) (Q : List V → Hp → Prop) (H1 : Hp) : Prop :=
  ∃ W : Nat → Nat → List V → Hp → Prop, (∃ m, W 0 m [] H1) ∧ ∀ i m ys H, W i m ys H → ys.length < sizeLine ∧
    ((J.stop i H ∧ Q ys H) ∨ (J.go i H ∧ ∃ (NY : V → Hp → Prop) (NN : Hp → Prop), (∀ y H3, NY y H3 → ∃ m', m' < m ∧ W (i + 1) m' (ys ++ [y]) H3) ∧ (∀ H2, NN H2 → ∃ m', m' < m ∧ W (i + 1) m' ys H2) ∧
      ∀ x H', J.yld i H x H' → tc (sub σ ix (some x)) H' fun b H2 => if b = true then te (sub σ ix (some x)) H2 NY else NN H2))
section
variable {X : Cx} {elt iter : Expr} {ifs : List Expr} {x : Str} {px : Pos} {scope : Scope} {pos : Pos} {wi : TI} {tc : TT} {te : TE} {fr : List Str} {ix : List Nat}
theorem z43 {pins : List (Addr × Obj)} {σ : St} {H : Hp} {s : Shared} {fp : List Addr} {it : Addr} {tn : Nat → Heap → Prop} {J : It} {R : Result → Shared → Prop} {Q : List V → Hp → Prop} (hc : X.calm = true) (S : CompSc X scope x fr ix)
    (hel : ∀ C cells s₀ H₀ ex pins, PE (j9 X scope (x :: fr) C cells s₀ H₀ ex pins) elt te) (hif : ∀ C cells s₀ H₀ ex pins, z6G (j9 X scope (x :: fr) C cells s₀ H₀ ex pins) ifs tc)
    (I : Inv X pins σ H s) (T : Turn X.prog X.w X.K (.Name x px) J fp it tn) (st : tn 0 s.heap) (hfp : ∀ b ∈ fp, z19 X pins H b) (h : z0P J σ ix tc te Q H)
    (hR : ∀ s4 ys H4, (∃ m, s4.heap.Ns (s.heap.push zP).objs.size m) → Q ys H4 → H4 s.heap.objs.size = none → H4 (s.heap.push zP).objs.size = none → (∀ h', Heap.SameBut (s.heap.push zP).objs.size s4.heap h' → Inv X pins σ (upd H4 s.heap.objs.size (.lst ys)) { s4 with heap := h' }) → R (.ok .next) s4) :
    codeAny (model X.prog X.w) X.A (.compLoop (.ListComp elt [⟨.Name x px, iter, ifs, 0⟩] scope pos) 0 (.ref it) (.ref s.heap.objs.size)
      (compEnvC scope (cellsFrom ((s.heap.push zP).push jM).objs.size scope.names (kD X.env scope.names [])) (s.heap.push zP).objs.size X.env)) R { s with heap := pushCells ((s.heap.push zP).push jM) scope.names } := by
  obtain ⟨W, ⟨m0, w0⟩, turn⟩ := h;have hlt : ∀ b ∈ fp, b < s.heap.objs.size := fun b hb => by
    obtain ⟨o, e, _⟩ := T.obj 0 _ st b hb;exact Heap.lt_size e
  have I0 := z7s S I hfp hlt;have z1 : (s.heap.push zP).objs.size = s.heap.objs.size + 1 := Heap.size_push ..;have up : ∀ b o, s.heap.get? b = some o → (pushCells ((s.heap.push zP).push jM) scope.names).get? b = some o := fun b o e => pushCells_keeps _ _ b o (Heap.get?_push_of_some _ (Heap.get?_push_of_some _ e))
  have oD0 : (pushCells ((s.heap.push zP).push jM) scope.names).get? s.heap.objs.size = some { cls := .type "list", data := .seq ([] : List Value).toArray } :=
    pushCells_keeps _ _ _ _ (Heap.get?_push_of_some _ (Heap.get?_push_size _ rfl))
  have clo' : ∀ y ∈ scope.names, y.2 = .free → ∃ c, X.env.cells.lookup y.1 = some c := fun y hy hk => I.ok.has y.1 (S.clo y hy hk)
  have cellsD : ∀ y c, (cellsFrom ((s.heap.push zP).push jM).objs.size scope.names (kD X.env scope.names [])).lookup y = some c → c ≠ s.heap.objs.size := fun y c e => by
    rcases z1l scope.names ((s.heap.push zP).push jM) (kD X.env scope.names []) y c e with ⟨_, a2, _⟩ | a
    · rw [Heap.size_push, z1] at a2;exact Nat.ne_of_gt (Nat.lt_of_lt_of_le (Nat.lt_succ_of_lt (Nat.lt_succ_self _)) a2)
    · obtain ⟨v, q⟩ := I.cell y c (z0z scope.names [] clo' (fun y c e => by simp at e) y c a);exact Nat.ne_of_lt q.lt
  generalize cellsFrom ((s.heap.push zP).push jM).objs.size scope.names (kD X.env scope.names []) = cells at I0 cellsD ⊢;generalize hCe : (s.heap.push zP).objs.size = C at I0 hR z1 ⊢;generalize hDe : s.heap.objs.size = D at z1 oD0 cellsD hlt hR ⊢;have hDC : D ≠ C := by omega
  have DleD : s.heap.objs.size ≤ D := by omega
  have DleC : s.heap.objs.size ≤ C := by omega
  have pnD : ∀ p ∈ X.pn ++ pins, p.1 ≠ D := fun p hp => by
    have := Heap.lt_size (I.pin p hp).1;exact Nat.ne_of_lt (hDe ▸ this)
  have Dfs : D ∉ frs X.stack := fun z => by
    rcases List.mem_cons.mp (I.stkSub D z) with e | e
    · have := I.lt;rw [← e, hDe] at this;exact Nat.lt_irrefl _ this
    · exact I.nofs DleD e
  have hNd : (x :: fr).Nodup := S.nd;have hxl : Loc (relabel scope X.env) x := by
    rcases S.xloc with q | q
    · exact .inl (jQ (env := X.env) q)
    · exact .inr (jQ (env := X.env) q)
  have hxf : (j9 X scope (x :: fr) C cells s H fp pins).fn x = true ∨ (j9 X scope (x :: fr) C cells s H fp pins).env.scope.names.lookup x = some .local := by
    rcases S.xloc with q | q
    · exact .inr (jQ (env := X.env) q)
    · exact .inl (decide_eq_true (lookup_mem q))
  refine z1L (fun n s' => ∃ i ys its k ox H', Inv (j9 X scope (x :: fr) C cells s H fp pins) [] (sub σ ix ox) H' s' ∧ tn i s'.heap ∧ (∀ b ∈ fp, H' b = none) ∧ s'.heap.get? D = some { cls := .type "list", data := .seq its.toArray k } ∧ H' D = none ∧ jb ys its ∧ W i n ys H') ?_ m0
    ⟨0, [], [], 0, none, H, I0, T.keep _ _ _ st fun b hb o e => up b o e, fun b hb => (hfp b hb).1, oD0, I.hok.fresh DleD, .nil, w0⟩
  rintro n s3 ⟨i, ys, its, k, ox, H3, I3, st3, fr3, oD3, nD3, rv3, w3⟩;obtain ⟨hys, hcase⟩ := turn i n ys H3 w3;have hlen := rv3.length;have DC' : D ≠ (j9 X scope (x :: fr) C cells s H fp pins).env.locals := hDC;have I3p : Inv (j9 X scope (x :: fr) C cells s H fp pins) [(D, { cls := .type "list", data := .seq its.toArray k })] (sub σ ix ox) H3 s3 := I3.pins_of fun p hp => by
    rw [List.mem_singleton.mp hp];exact ⟨oD3, nD3, DC', Dfs, fun v z => by cases z⟩
  have fpY : ∀ {H' : Hp}, (∀ b ∈ fp, H' b = none) → ∀ b ∈ fp, z19 (j9 X scope (x :: fr) C cells s H fp pins) [(D, { cls := .type "list", data := .seq its.toArray k })] H' b := fun {H'} hn b hb => by
    obtain ⟨e1, e2⟩ := I3.ok.exf b hb;refine ⟨hn b hb, e1, I3.ok.exfs b hb, .inl hb, e2, fun p hp => ?_⟩;rcases List.mem_append.mp hp with hp | hp
    · exact (hfp b hb).2.2.2.2.2 p hp
    · rw [List.mem_singleton.mp hp];have := hlt b hb;exact Nat.ne_of_gt this
  rcases hcase with ⟨stop, q⟩ | ⟨go, NY, NN, hNY, hNN, step⟩
  · refine thn (T.done (j9 X scope (x :: fr) C cells s H fp pins) rfl rfl rfl hc i _ s3 _ H3 _ I3p (fpY fr3) st3 stop) fun r s4 ⟨hr, I4⟩ => ?_
    subst hr;have oD4 := (I4.pin (D, { cls := .type "list", data := .seq its.toArray k }) (List.mem_append_right _ (List.mem_singleton.mpr rfl))).1;obtain ⟨m, hn, _⟩ := I4.loc;exact hR s4 ys H3 ⟨m, hn⟩ q nD3 I4.free fun h' sb => z5e I hfp I4 DleD DleC hDC nD3 oD4 rv3 (Nat.le_of_lt hys) sb
  · refine thn (T.item (j9 X scope (x :: fr) C cells s H fp pins) rfl rfl rfl hc i _ s3 _ H3 _ I3p (fpY fr3) st3 go) fun r s4 ⟨u, hr, h4⟩ => ?_
    subst hr;refine thn h4 fun _ s5 ⟨v, H5, I5, r5, y5, st5, fr5⟩ => ?_
    have I5' := I5.pinned (fpY fr5) (T.obj _ _ st5);refine wpAny_assign_Name (z17 (i := 0) I5' hNd rfl hxl r5 (fun s6 I6 => ?_) hxf);have q6 := step v H5 y5;have I6' : Inv (j9 X scope (x :: fr) C cells s H fp pins) ([(D, { cls := .type "list", data := .seq its.toArray k })] ++ z1K fp s5.heap) (sub σ ix (some v)) H5 s6 := I6;refine wpAny_mono (hif C cells s H fp pins _ s6 _ H5 _ I6' q6) (fun b s7 ⟨H7, I7, q7⟩ => ?_) fun _ _ z => z.elim
    have tnK : ∀ {H8 : Hp} {s8 : Shared} {σ8 : St}, Inv (j9 X scope (x :: fr) C cells s H fp pins) ([(D, { cls := .type "list", data := .seq its.toArray k })] ++ z1K fp s5.heap) σ8 H8 s8 → tn (i + 1) s8.heap ∧ (∀ b ∈ fp, H8 b = none) ∧ s8.heap.get? D = some { cls := .type "list", data := .seq its.toArray k } ∧ H8 D = none := fun {H8 s8 σ8} I8 => by
      refine ⟨T.keep _ _ _ st5 fun b hb o e => (I8.pin (b, o) (List.mem_append_right _ (List.mem_append_right _ (kL hb e)))).1, fun b hb => ?_, ?_, ?_⟩
      · obtain ⟨o, e, d⟩ := T.obj _ _ st5 b hb;exact (I8.pin (b, o) (List.mem_append_right _ (List.mem_append_right _ (kL hb e)))).2.1
      · exact (I8.pin (D, { cls := .type "list", data := .seq its.toArray k }) (List.mem_append_right _ (List.mem_append_left _ (List.mem_singleton.mpr rfl)))).1
      · exact (I8.pin (D, { cls := .type "list", data := .seq its.toArray k }) (List.mem_append_right _ (List.mem_append_left _ (List.mem_singleton.mpr rfl)))).2.1
    cases b with
    | false =>
      rw [if_neg Bool.false_ne_true] at q7 ⊢;obtain ⟨m', hm, w7⟩ := hNN _ q7;obtain ⟨t1, t2, t3, t4⟩ := tnK I7;exact ⟨m', hm, i + 1, ys, its, k, some v, H7, I7.pins_of fun p hp => (by cases hp), t1, t2, t3, t4, rv3, w7⟩
    | true =>
      rw [if_pos rfl] at q7 ⊢;refine wpAny_mono (hel C cells s H fp pins _ s7 _ H7 _ I7 q7) (fun y s8 ⟨w, H8, I8, r8, q8⟩ => ?_) fun _ _ z => z.elim
      obtain ⟨m', hm, w8⟩ := hNY _ _ q8;obtain ⟨t1, t2, t3, t4⟩ := tnK I8;refine call_meets F.slot_list_append ⟨_, t3, rfl⟩ F.entry_list_append (F.args_list_append_2 _ _) (PySem.list_append D its.toArray k y (by rw [List.size_toArray]; omega)) ⟨t3, ?_⟩;obtain ⟨k9, oD9⟩ : ∃ k9, (s8.heap.update D (Obj.mapSeq (·.push y))).get? D = some { cls := .type "list", data := .seq (its ++ [y]).toArray k9 } := ⟨_, by
        rw [show (its ++ [y]).toArray = its.toArray.push y by simp];exact PySem.IsL.update t3 (·.push y)⟩
      have I8n : Inv (j9 X scope (x :: fr) C cells s H fp pins) [] (sub σ ix (some v)) H8 s8 := I8.pins_of fun p hp => (by cases hp)
      have I9 := Inv.turned (it := D) (t' := s8.toks) (h' := s8.heap.update D (Obj.mapSeq (·.push y))) I8n (fun b o hb e => (Heap.get?_update_other s8.heap _ (Ne.symm hb)).trans e) t4 DC' (.inr DleD) cellsD (fun p hp => pnD p (by simpa using hp));exact ⟨m', hm, i + 1, ys ++ [w], its ++ [y], k9, some v, H8, I9, T.keep _ _ _ t1 fun b hb o e => (Heap.get?_update_other s8.heap _ (Nat.ne_of_gt (hlt b hb))).trans e, t2, oD9, t4, rv3.append (.cons r8 .nil), w8⟩
def zbJ (wi : TI) (ix : List Nat) (tc : TT) (te : TE) : TE := fun σ H Q => wi σ H fun J H1 => z0P J σ ix tc te (fun ys H2 => ∀ p, H2 p = none → Q (.ref p) (upd H2 p (.lst ys))) H1
theorem z1n (hc : X.calm = true) (S : CompSc X scope x fr ix) (hi : PI X (.Name x px) iter wi)
    (hif : ∀ C cells s₀ H₀ ex pins, z6G (j9 X scope (x :: fr) C cells s₀ H₀ ex pins) ifs tc) (hel : ∀ C cells s₀ H₀ ex pins, PE (j9 X scope (x :: fr) C cells s₀ H₀ ex pins) elt te)
    (hs : ∀ x, foldedSetIterable iter X.env x = pure x := by intro _; rfl) : PE X (.ListComp elt [⟨.Name x px, iter, ifs, 0⟩] scope pos) (zbJ wi ix tc te) := by
  intro pins s σ H Q I h;rw [eval_ListComp];have clo' : ∀ y ∈ scope.names, y.2 = .free → ∃ c, X.env.cells.lookup y.1 = some c := fun y hy hk => I.ok.has y.1 (S.clo y hy hk)
  refine wpAny_comprehension_free (use := none) rfl hs (z0p clo') S.kind S.names (thn (hi pins s σ H _ I h) fun v s1 h1 => thn h1 fun itv s2 h2 => ?_);obtain ⟨it, fp, tn, J, H2, rfl, I2, T, st2, f2, hw⟩ := h2;refine wpAny_newObj_type (z0Z ?_);have st3 : tn 0 (pushCells ((s2.heap.push zP).push jM) scope.names) := T.keep _ _ _ st2 fun b hb o e => pushCells_keeps _ _ b o (Heap.get?_push_of_some _ (Heap.get?_push_of_some _ e))
  have loop := z43 (px := px) (iter := iter) (pos := pos) (R := compPost (model X.prog X.w) X.A X.xe none (EP X pins σ Q) (.ref s2.heap.objs.size) (s2.heap.push zP).objs.size) hc S hel hif I2 T st2 f2 hw
    (fun s4 ys H4 ⟨m, hn⟩ q nD nC hb => ⟨m, hn, fun h' sb => ⟨.ref s2.heap.objs.size, _, hb h' sb, rfl, q _ nD⟩⟩)
  exact codeAny_compStart_list loop (T.self _ _ _ _ _ st3 loop)
def z93 (j : Nat) (wi : TI) (ix : List Nat) (tc : TT) (te : TE) : TS := fun D σ H => wi σ H fun J H1 => z0P J σ ix tc te (fun ys H2 => ∀ p, H2 p = none → D.nx (σ.set j (some (.ref p))) (upd H2 p (.lst ys))) H1
theorem yD {j : Nat} {y : Str} {py spos : Pos} (hc : X.calm = true) (hN : X.N.Nodup) (hj : X.N[j]? = some y) (hy : Loc X.env.scope y) (S : CompSc X scope x fr ix) (hi : PI X (.Name x px) iter wi)
    (hif : ∀ C cells s₀ H₀ ex pins, z6G (j9 X scope (x :: fr) C cells s₀ H₀ ex pins) ifs tc) (hel : ∀ C cells s₀ H₀ ex pins, PE (j9 X scope (x :: fr) C cells s₀ H₀ ex pins) elt te)
    (hs : ∀ x, foldedSetIterable iter X.env x = pure x := by intro _; rfl)
    (hsw : swapsWith (.ListComp elt [⟨.Name x px, iter, ifs, 0⟩] scope pos) (some (.Name y py)) spos.line X.env = pure true := by rfl)
    (hf : X.fn y = true ∨ X.env.scope.names.lookup y = some .local := by first | exact .inl rfl | exact .inr rfl | assumption) :
    PS X (.Assign [.Name y py] (.ListComp elt [⟨.Name x px, iter, ifs, 0⟩] scope pos) spos) (z93 j wi ix tc te) := by
  intro pins s σ H D I h;rw [exec_Assign_Name_used _ _ _ _ hsw];refine wpAny_bind (wpAny_standAt (wpAny_bind ?_))
  show wpAny _ X.A (do let _ ← comprehension (.ListComp elt [⟨.Name x px, iter, ifs, 0⟩] scope pos) scope X.env _ (newList []) false (eval iter X.env) (some (assign (.Name y py) X.env))) _ _ s
  have clo' : ∀ y ∈ scope.names, y.2 = .free → ∃ c, X.env.cells.lookup y.1 = some c := fun y hy hk => I.ok.has y.1 (S.clo y hy hk)
  refine wpAny_bind (wpAny_mono (wpAny_comprehension_free (use := some (assign (.Name y py) X.env)) (Q := fun _ s' => SP X pins D .next s') rfl hs (z0p clo') S.kind S.names
    (thn (hi pins s σ H _ I h) fun v s1 h1 => thn h1 fun itv s2 h2 => ?_)) (fun _ s' hq => wpAny_pure (wpAny_pure hq)) fun _ _ e => e)
  obtain ⟨it, fp, tn, J, H2, rfl, I2, T, st2, f2, hw⟩ := h2;refine wpAny_newObj_type (z0Z ?_);have st3 : tn 0 (pushCells ((s2.heap.push zP).push jM) scope.names) := T.keep _ _ _ st2 fun b hb o e => pushCells_keeps _ _ b o (Heap.get?_push_of_some _ (Heap.get?_push_of_some _ e))
  have z1 : (s2.heap.push zP).objs.size = s2.heap.objs.size + 1 := Heap.size_push ..;have loop := z43 (px := px) (iter := iter) (pos := pos) (R := compPost (model X.prog X.w) X.A X.xe (some (assign (.Name y py) X.env)) (fun _ s' => SP X pins D .next s') (.ref s2.heap.objs.size) (s2.heap.push zP).objs.size) hc S hel hif I2 T st2 f2 hw
    (fun s4 ys H4 ⟨m, hn⟩ q nD nC4 hb => by
      have I5 : Inv X pins σ (upd H4 s2.heap.objs.size (.lst ys)) s4 := hb s4.heap (Heap.SameBut.refl ..);have CL : (s2.heap.push zP).objs.size ≠ X.env.locals := by rw [z1]; exact Nat.ne_of_gt (Nat.lt_succ_of_lt I2.lt)
      have CC : ∀ z c, X.env.cells.lookup z = some c → c ≠ (s2.heap.push zP).objs.size := fun z c e => by
        obtain ⟨v, w⟩ := I2.cell z c e;rw [z1];exact Nat.ne_of_lt (Nat.lt_succ_of_lt w.lt)
      show wpAny _ X.A (assign (.Name y py) X.env (.ref s2.heap.objs.size)) _ _ s4
      refine wpAny_assign_Name (z2z (v := .ref s2.heap.objs.size) I5 hN hj hy rfl (fun s6 I6 ⟨a, sa, ha⟩ => ?_) hf);have aC : (s2.heap.push zP).objs.size ≠ a := by
        rcases ha with e | e
        · rw [e]; exact CL
        · exact (CC _ _ e).symm
      refine ⟨m, hn.sameBut sa aC, fun h6 sb6 => ?_⟩;have nC : upd H4 s2.heap.objs.size (.lst ys) (s2.heap.push zP).objs.size = none := by
        rw [zO (by rw [z1]; exact Nat.succ_ne_self _)];exact nC4
      have I7 := Inv.turned (it := (s2.heap.push zP).objs.size) (t' := s6.toks) (h' := h6) I6 (fun b o hb e => (sb6.2 b hb).trans e) nC CL (.inr (by rw [z1]; exact Nat.le_succ_of_le I2.sz)) CC (fun p hp => by
        rw [z1];exact Nat.ne_of_lt (Nat.lt_succ_of_lt (Heap.lt_size (I2.pin p hp).1)))
      exact ⟨_, _, I7, q _ nD⟩)
  exact codeAny_compStart_list loop (T.self _ _ _ _ _ st3 loop)
end
end L2

namespace L2
open PySem PySem.Spec PyProof.Rows
def z4B (sx : Scope) (NX : List Str) (scope : Scope) (x : Str) (fr : List Str) (ix : List Nat) : Bool :=
  (scope.kind == .function) && scope.names.all (fun y => y.2 != .local || scope.names.lookup y.1 == some .local) && decide ((scope.names.map (·.1)).Nodup) &&
  (scope.names.lookup x == some .local || scope.names.lookup x == some .cell) && scope.names.all (fun y => y.2 != .free || (sx.names.lookup y.1 == some .cell || sx.names.lookup y.1 == some .free)) &&
  decide (fr.length = ix.length) && decide ((x :: fr).Nodup) && (fr.zip ix).all fun p => NX[p.2]? == some p.1 && scope.names.lookup p.1 == some .free
theorem CompSc.of {X : Cx} {scope sx : Scope} {NX : List Str} {x : Str} {fr : List Str} {ix : List Nat} (hs : X.env.scope = sx) (hN : X.N = NX) (h : z4B sx NX scope x fr ix = true) : CompSc X scope x fr ix := by
  simp only [z4B, Bool.and_eq_true, decide_eq_true_eq, beq_iff_eq, List.all_eq_true, Bool.or_eq_true, bne_iff_ne, ne_eq] at h;obtain ⟨⟨⟨⟨⟨⟨⟨h1, h2⟩, h3⟩, h4⟩, h5⟩, h6⟩, h7⟩, h8⟩ := h;refine ⟨h1, fun y hy hk => ?_, h3, h4, fun y hy hk => ?_, fun k y e => ?_, h7, h6⟩
  · rcases h2 y hy with q | q
    · exact absurd hk q
    · exact q
  · show X.env.scope.names.lookup y.1 = _ ∨ X.env.scope.names.lookup y.1 = _
    rw [hs];rcases h5 y hy with q | q
    · exact absurd hk q
    · exact q
  · have hk : k < ix.length := by rw [← h6]; exact (List.getElem?_eq_some_iff.mp e).1
    have hz : (fr.zip ix)[k]? = some (y, ix[k]) := by
      rw [List.getElem?_zip_eq_some];exact ⟨e, List.getElem?_eq_getElem hk⟩
    obtain ⟨a1, a2⟩ := h8 _ (List.mem_of_getElem? hz);exact ⟨ix[k], List.getElem?_eq_getElem hk, by rw [hN]; exact a1, a2⟩
def zad (scope sx : Scope) : Scope :=
  { scope with names := scope.names.map fun (n, k) => if (k == .free && sx.kind == .function && sx.names.lookup n == some .cell) then (n, .cell) else (n, k) }
theorem CompSc.of2 {X : Cx} {scope1 scope sx : Scope} {N1 NX : List Str} {C : Addr} {cells : List (Str × Addr)} {s₀ : Shared} {H₀ : Hp} {ex : List Addr} {pins : List (Addr × Obj)} {x : Str} {fr : List Str} {ix : List Nat} (hs : X.env.scope = sx) (hN : N1 = NX) (h : z4B (zad scope1 sx) NX scope x fr ix = true) :
    CompSc (j9 X scope1 N1 C cells s₀ H₀ ex pins) scope x fr ix := by
  refine CompSc.of (sx := zad scope1 sx) ?_ hN h;subst hs
  rfl
theorem z1p {K : PySem.W.Frag} {a : Addr} {xs : List V} {σ : St} {ix : List Nat} {tc : TT} {te : TE} {Q : List V → Hp → Prop} {H : Hp} (Pv : Nat → List V → Hp → Prop) (h0 : Pv 0 [] H) (hl : ∀ i ys H, i ≤ xs.length → Pv i ys H → SqL K H a xs ∧ ys.length < sizeLine)
    (hs : ∀ (i : Nat) x ys H, xs[i]? = some x → Pv i ys H → tc (sub σ ix (some x)) H fun b H2 => if b = true then te (sub σ ix (some x)) H2 fun y H3 => Pv (i + 1) (ys ++ [y]) H3 else Pv (i + 1) ys H2) (hd : ∀ ys H, Pv xs.length ys H → Q ys H) : z0P (Itl K a) σ ix tc te Q H := by
  refine ⟨fun i m ys H => m = xs.length - i ∧ i ≤ xs.length ∧ Pv i ys H, ⟨_, rfl, Nat.zero_le _, h0⟩, ?_⟩;rintro i m ys H ⟨rfl, hi, p⟩;obtain ⟨q, hz⟩ := hl i ys H hi p;refine ⟨hz, ?_⟩;by_cases hlt : i < xs.length
  · refine .inr ⟨⟨xs, xs[i], q, by simp [hlt]⟩, fun y H3 => Pv (i + 1) (ys ++ [y]) H3, fun H2 => Pv (i + 1) ys H2, fun y H3 z => ⟨xs.length - (i + 1), by omega, rfl, hlt, z⟩, fun H2 z => ⟨xs.length - (i + 1), by omega, rfl, hlt, z⟩, fun x H' y => ?_⟩;obtain ⟨e, y⟩ := y;subst e;exact hs i x ys _ (y xs q) p
  · have e : i = xs.length := by omega
    subst e;exact .inl ⟨⟨xs, q, Nat.le_refl _⟩, hd ys H p⟩
theorem z64 {lo : Int} {n : Nat} {σ : St} {ix : List Nat} {tc : TT} {te : TE} {Q : List V → Hp → Prop} {H : Hp} (Pv : Nat → List V → Hp → Prop) (h0 : Pv 0 [] H) (hl : ∀ i ys H, i ≤ n → Pv i ys H → ys.length < sizeLine)
    (hs : ∀ (i : Nat) ys H, i < n → Pv i ys H → tc (sub σ ix (some (.int (lo + i)))) H fun b H2 => if b = true then te (sub σ ix (some (.int (lo + i)))) H2 fun y H3 => Pv (i + 1) (ys ++ [y]) H3 else Pv (i + 1) ys H2) (hd : ∀ ys H, Pv n ys H → Q ys H) : z0P (Itr lo n) σ ix tc te Q H := by
  refine ⟨fun i m ys H => m = n - i ∧ i ≤ n ∧ Pv i ys H, ⟨_, rfl, Nat.zero_le _, h0⟩, ?_⟩;rintro i m ys H ⟨rfl, hi, p⟩;refine ⟨hl i ys H hi p, ?_⟩;by_cases hlt : i < n
  · refine .inr ⟨hlt, fun y H3 => Pv (i + 1) (ys ++ [y]) H3, fun H2 => Pv (i + 1) ys H2, fun y H3 z => ⟨n - (i + 1), by omega, rfl, hlt, z⟩, fun H2 z => ⟨n - (i + 1), by omega, rfl, hlt, z⟩, fun x H' y => ?_⟩;obtain ⟨e, y⟩ := y;subst e y;exact hs i ys _ hlt p
  · have e : i = n := by omega
    subst e;exact .inl ⟨Nat.le_refl _, hd ys H p⟩
theorem z0d {K : PySem.W.Frag} {a : Addr} {xs : List V} {σ : St} {ix : List Nat} {te : TE} {Q : List V → Hp → Prop} {H : Hp} (Pv : Nat → List V → Hp → Prop) (h0 : Pv 0 [] H) (hl : ∀ i ys H, i ≤ xs.length → Pv i ys H → SqL K H a xs ∧ ys.length < sizeLine)
    (hs : ∀ (i : Nat) x ys H, xs[i]? = some x → Pv i ys H → te (sub σ ix (some x)) H fun y H3 => Pv (i + 1) (ys ++ [y]) H3) (hd : ∀ ys H, Pv xs.length ys H → Q ys H) : z0P (Itl K a) σ ix z5w te Q H :=
  z1p Pv h0 hl (fun i x ys H e p => zab (A := te (sub σ ix (some x)) H fun y H3 => Pv (i + 1) (ys ++ [y]) H3) (B := Pv (i + 1) ys H) (hs i x ys H e p)) hd
theorem kY {lo : Int} {n : Nat} {σ : St} {ix : List Nat} {te : TE} {Q : List V → Hp → Prop} {H : Hp} (Pv : Nat → List V → Hp → Prop) (h0 : Pv 0 [] H) (hl : ∀ i ys H, i ≤ n → Pv i ys H → ys.length < sizeLine)
    (hs : ∀ (i : Nat) ys H, i < n → Pv i ys H → te (sub σ ix (some (.int (lo + i)))) H fun y H3 => Pv (i + 1) (ys ++ [y]) H3) (hd : ∀ ys H, Pv n ys H → Q ys H) : z0P (Itr lo n) σ ix z5w te Q H :=
  z64 Pv h0 hl (fun i ys H e p => zab (A := te (sub σ ix (some (.int (lo + i)))) H fun y H3 => Pv (i + 1) (ys ++ [y]) H3) (B := Pv (i + 1) ys H) (hs i ys H e p)) hd
section
variable {X : Cx}
end
theorem z1k {α : Type} [DecidableEq α] : ∀ {l us : List α}, l.Nodup → (∀ x ∈ l, x ∈ us) → l.length ≤ us.length
  | [], _, _, _ => Nat.zero_le _
  | x :: l, us, hn, hs => by
    obtain ⟨h1, h2⟩ := List.nodup_cons.mp hn;have hx : x ∈ us := hs x List.mem_cons_self;have ih := z1k (l := l) (us := us.erase x) h2 fun y hy => (List.mem_erase_of_ne (fun e => h1 (by rw [← e]; exact hy))).mpr (hs y (List.mem_cons_of_mem _ hy))
    rw [List.length_erase_of_mem hx] at ih;have : 0 < us.length := List.length_pos_of_mem hx;rw [List.length_cons];omega
section
variable {X : Cx} {K : PySem.W.Frag}
theorem kF (h : X.K = K) : IxR X (zbR K) := by subst h; exact zT
theorem z4X (h : X.K = K) : IxR X (zby K) := by subst h; exact zx
theorem z3U (h : X.K = K) : z03 X (.builtin "len") (fun xs H Q => ∃ p ys, xs = [.ref p] ∧ (SqL K H p ys ∨ SqT K H p ys) ∧ Q (.int ys.length) H) := by subst h; exact zK
theorem z7u (h : X.K = K) : MtM X "list.index" (z8x K) := by subst h; exact z0f
theorem z92 {tg l : Expr} {tl : TE} (h : X.K = K) (hl : PE X l tl) : PI X tg l (zae K tl) := by subst h; exact kc hl
theorem zaq {o e : Expr} {es : List Expr} {to : TE} {t : TA} {name : Str} {apos cpos : Pos} {T id : String} {r : V → List V → Hp → VK → Prop} (h : X.K = K) (pa : PlainAttrs T) (slot : Slot T name id) (hty : typeOf (.builtin id) = pure (.type "method_descriptor")) (hm : MtR X id r) (ho : PE X o to) (ha : PA X (e :: es) t)
    (hbase : attributeBase o name X.env (eval o X.env) = eval o X.env := by rfl)
    (hfew : ((backTo cpos (starEach (e :: es) X.env)).all (fun x => !x.1) && (backToKw cpos (keywordEach [] X.env)).all (fun x => x.1.isSome)
      && decide ((e :: es).length + ([] : List Keyword).length + (if ([] : List Keyword).isEmpty then 0 else 1) < 30)) = true := by rfl)
    (hline : (apos.endLine == cpos.line) = true := by rfl) (hs : starEach (e :: es) X.env = (false, eval e X.env) :: starEach es X.env := by rfl) (hplain : (backTo cpos (starEach es X.env)).any (·.1) = false := by rfl) :
    PE X (.Call (.Attribute o name apos) (e :: es) [] cpos) (tBM K T r to t) := by
  subst h;exact jZ pa slot hty hm ho ha hbase hfew hline hs hplain
end
section
variable {X : Cx} {es : List Expr} {te : TE} {t : TA}
theorem zn {a b c} (ha : PE X (.Constant a b c) te) (hr : PA X es t) : PA X (.Constant a b c :: es) (z0B te t) := yY ha hr
theorem zl {a b} (ha : PE X (.Name a b) te) (hr : PA X es t) : PA X (.Name a b :: es) (z0B te t) := yY ha hr
theorem zS {a b c} (ha : PE X (.Tuple a b c) te) (hr : PA X es t) : PA X (.Tuple a b c :: es) (z0B te t) := yY ha hr
theorem yd {a b c d} (ha : PE X (.BinOp a b c d) te) (hr : PA X es t) : PA X (.BinOp a b c d :: es) (z0B te t) := yY ha hr
theorem zF {a b c} (ha : PE X (.Subscript a b c) te) (hr : PA X es t) : PA X (.Subscript a b c :: es) (z0B te t) := yY ha hr
theorem ya {a b c d} (ha : PE X (.Call a b c d) te) (hr : PA X es t) : PA X (.Call a b c d :: es) (z0B te t) := yY ha hr
theorem kU {a b} (ha : PE X (.List a b) te) (hr : PA X es t) : PA X (.List a b :: es) (z0B te t) := yY ha hr
theorem z7h {a b c} (ha : PE X (.UnaryOp a b c) te) (hr : PA X es t) : PA X (.UnaryOp a b c :: es) (z0B te t) := yY ha hr
theorem z7a {a b c d} (ha : PE X (.Compare a b c d) te) (hr : PA X es t) : PA X (.Compare a b c d :: es) (z0B te t) := yY ha hr
theorem z70 {a b c d} (ha : PE X (.ListComp a b c d) te) (hr : PA X es t) : PA X (.ListComp a b c d :: es) (z0B te t) := yY ha hr
end
theorem z2U {X : Cx} {a b : Int} {k1 k2} {p1 p2 p3 : Pos} (hc : zbk a b) : PE X (.BinOp (.Constant (.int a) k1 p1) .Pow (.Constant (.int b) k2 p2) p3) (tC (.int (a ^ b.toNat))) := by
  intro pins s σ H Q I h;exact (zr zaN zd zd) pins s σ H Q I ⟨a, b, rfl, rfl, hc, h⟩
end L2

namespace Cn
open PySem L2
inductive Side where
  | nm (s : Str) | nu (i : Int)
def Side.v : Side → V
  | .nm s => .str s
  | .nu i => .int i
def Side.ok (hs : List Str) : Side → Prop
  | .nm s => s ∈ hs
  | .nu _ => True
def Side.cols : Side → List Str
  | .nm s => [s]
  | .nu _ => []
inductive Cond where
  | less (a b : Side) | same (a b : Side) | no (c : Cond) | an (c d : Cond) | or (c d : Cond)
namespace Cond
def size : Cond → Nat
  | .less _ _ => 1
  | .same _ _ => 1
  | .no c => c.size + 1
  | .an c d => c.size + d.size + 1
  | .or c d => c.size + d.size + 1
def leaf : Cond → Bool
  | .less _ _ => true
  | .same _ _ => true
  | _ => false
def ok (hs : List Str) : Cond → Prop
  | .less a b => a.ok hs ∧ b.ok hs
  | .same a b => a.ok hs ∧ b.ok hs
  | .no c => c.ok hs
  | .an c d => c.ok hs ∧ d.ok hs
  | .or c d => c.ok hs ∧ d.ok hs
def cols : Cond → List Str
  | .less a b => a.cols ++ b.cols
  | .same a b => a.cols ++ b.cols
  | .no c => c.cols
  | .an c d => c.cols ++ d.cols
  | .or c d => c.cols ++ d.cols
theorem size_pos (c : Cond) : 1 ≤ c.size := by
  cases c <;> simp only [size] <;> omega
end Cond
def num (hs : List Str) (rs : List Int) : Side → Int
  | .nm s => rs.getD (hs.idxOf s) 0
  | .nu i => i
def ev (hs : List Str) (rs : List Int) : Cond → Bool
  | .less a b => decide (num hs rs a < num hs rs b)
  | .same a b => decide (num hs rs a = num hs rs b)
  | .no c => !ev hs rs c
  | .an c d => ev hs rs c && ev hs rs d
  | .or c d => ev hs rs c || ev hs rs d
def jP (H : Hp) : Cond → V → Prop
  | .less a b, v => ∃ p, v = .ref p ∧ H p = some (.tup [.str "less", a.v, b.v])
  | .same a b, v => ∃ p, v = .ref p ∧ H p = some (.tup [.str "same", a.v, b.v])
  | .no c, v => ∃ p x, v = .ref p ∧ H p = some (.tup [.str "not", x]) ∧ jP H c x
  | .an c d, v => ∃ p x y, v = .ref p ∧ H p = some (.tup [.str "and", x, y]) ∧ jP H c x ∧ jP H d y
  | .or c d, v => ∃ p x y, v = .ref p ∧ H p = some (.tup [.str "or", x, y]) ∧ jP H c x ∧ jP H d y
theorem jP.mono {H H' : Hp} (t : ∀ b xs, H b = some (.tup xs) → H' b = some (.tup xs)) : ∀ {c : Cond} {v : V}, jP H c v → jP H' c v
  | .less _ _, _, h => by
    obtain ⟨p, rfl, h⟩ := h;exact ⟨p, rfl, t _ _ h⟩
  | .same _ _, _, h => by
    obtain ⟨p, rfl, h⟩ := h;exact ⟨p, rfl, t _ _ h⟩
  | .no _, _, h => by
    obtain ⟨p, x, rfl, h, h1⟩ := h;exact ⟨p, x, rfl, t _ _ h, h1.mono t⟩
  | .an _ _, _, h => by
    obtain ⟨p, x, y, rfl, h, h1, h2⟩ := h;exact ⟨p, x, y, rfl, t _ _ h, h1.mono t, h2.mono t⟩
  | .or _ _, _, h => by
    obtain ⟨p, x, y, rfl, h, h1, h2⟩ := h;exact ⟨p, x, y, rfl, t _ _ h, h1.mono t, h2.mono t⟩
theorem jP.same {H H' : Hp} {c : Cond} {v : V} (e : zM H H') (h : jP H c v) : jP H' c v := h.mono fun b xs q => e b _ q
theorem jP.ref {H : Hp} {c : Cond} {v : V} (h : jP H c v) : ∃ p xs, v = .ref p ∧ H p = some (.tup xs) := by
  cases c with
  | less a b => obtain ⟨p, rfl, h⟩ := h; exact ⟨p, _, rfl, h⟩
  | same a b => obtain ⟨p, rfl, h⟩ := h; exact ⟨p, _, rfl, h⟩
  | no c => obtain ⟨p, x, rfl, h, _⟩ := h; exact ⟨p, _, rfl, h⟩
  | an c d => obtain ⟨p, x, y, rfl, h, _⟩ := h; exact ⟨p, _, rfl, h⟩
  | or c d => obtain ⟨p, x, y, rfl, h, _⟩ := h; exact ⟨p, _, rfl, h⟩
theorem jP.head {H : Hp} {c : Cond} {v : V} (h : jP H c v) : ∃ (p : Addr) (x : Str) (xs : List V), v = .ref p ∧ H p = some (.tup (.str x :: xs)) ∧ inV (.str x) [.str "less", .str "same"] = c.leaf := by
  cases c with
  | less a b => obtain ⟨p, rfl, h⟩ := h; exact ⟨p, _, _, rfl, h, (by show inV _ _ = _; first | exact (by decide +kernel : inV (.str "less") [.str "less", .str "same"] = true) | exact (by decide +kernel : inV (.str "same") [.str "less", .str "same"] = true) | exact (by decide +kernel : inV (.str "not") [.str "less", .str "same"] = false) | exact (by decide +kernel : inV (.str "and") [.str "less", .str "same"] = false) | exact (by decide +kernel : inV (.str "or") [.str "less", .str "same"] = false))⟩
  | same a b => obtain ⟨p, rfl, h⟩ := h; exact ⟨p, _, _, rfl, h, (by show inV _ _ = _; first | exact (by decide +kernel : inV (.str "less") [.str "less", .str "same"] = true) | exact (by decide +kernel : inV (.str "same") [.str "less", .str "same"] = true) | exact (by decide +kernel : inV (.str "not") [.str "less", .str "same"] = false) | exact (by decide +kernel : inV (.str "and") [.str "less", .str "same"] = false) | exact (by decide +kernel : inV (.str "or") [.str "less", .str "same"] = false))⟩
  | no c => obtain ⟨p, x, rfl, h, _⟩ := h; exact ⟨p, _, _, rfl, h, (by show inV _ _ = _; first | exact (by decide +kernel : inV (.str "less") [.str "less", .str "same"] = true) | exact (by decide +kernel : inV (.str "same") [.str "less", .str "same"] = true) | exact (by decide +kernel : inV (.str "not") [.str "less", .str "same"] = false) | exact (by decide +kernel : inV (.str "and") [.str "less", .str "same"] = false) | exact (by decide +kernel : inV (.str "or") [.str "less", .str "same"] = false))⟩
  | an c d => obtain ⟨p, x, y, rfl, h, _⟩ := h; exact ⟨p, _, _, rfl, h, (by show inV _ _ = _; first | exact (by decide +kernel : inV (.str "less") [.str "less", .str "same"] = true) | exact (by decide +kernel : inV (.str "same") [.str "less", .str "same"] = true) | exact (by decide +kernel : inV (.str "not") [.str "less", .str "same"] = false) | exact (by decide +kernel : inV (.str "and") [.str "less", .str "same"] = false) | exact (by decide +kernel : inV (.str "or") [.str "less", .str "same"] = false))⟩
  | or c d => obtain ⟨p, x, y, rfl, h, _⟩ := h; exact ⟨p, _, _, rfl, h, (by show inV _ _ = _; first | exact (by decide +kernel : inV (.str "less") [.str "less", .str "same"] = true) | exact (by decide +kernel : inV (.str "same") [.str "less", .str "same"] = true) | exact (by decide +kernel : inV (.str "not") [.str "less", .str "same"] = false) | exact (by decide +kernel : inV (.str "and") [.str "less", .str "same"] = false) | exact (by decide +kernel : inV (.str "or") [.str "less", .str "same"] = false))⟩
end Cn

namespace Rw
open PySem L2
abbrev refs (rs : List (Addr × List Int)) : List V := rs.map fun r => V.ref r.1
def jg (H : Hp) (p : Addr) (rs : List (Addr × List Int)) : Prop := H p = some (.lst (refs rs)) ∧ ∀ r ∈ rs, r.1 ≠ p ∧ H r.1 = some (.lst (r.2.map V.int))
theorem jg.same {H H' : Hp} {p : Addr} {rs : List (Addr × List Int)} (h : jg H p rs) (e : zM H H') : jg H' p rs := ⟨e _ _ h.1, fun r m => ⟨(h.2 r m).1, e _ _ (h.2 r m).2⟩⟩
theorem jg.kp {H H' : Hp} {l p : Addr} {rs : List (Addr × List Int)} (h : jg H p rs) (e : Kp l H H') (np : p ≠ l) (nr : ∀ r ∈ rs, r.1 ≠ l) : jg H' p rs := ⟨e _ _ np h.1, fun r m => ⟨(h.2 r m).1, e _ _ (nr r m) (h.2 r m).2⟩⟩
theorem kH {H : Hp} {p : Addr} (h : H p = some (.lst [])) : jg H p [] := ⟨h, fun _ z => by cases z⟩
theorem jg.push {H : Hp} {p q : Addr} {x : List Int} {rs : List (Addr × List Int)} (h : jg H p rs) (nq : q ≠ p) (hq : H q = some (.lst (x.map V.int))) :
    jg (upd H p (.lst ((refs rs) ++ [V.ref q]))) p (rs ++ [(q, x)]) := by
  refine ⟨by rw [zU]; simp [refs], fun r m => ?_⟩;rcases List.mem_append.mp m with m | m
  · exact ⟨(h.2 r m).1, by rw [zO (h.2 r m).1]; exact (h.2 r m).2⟩
  · rw [List.mem_singleton.mp m];exact ⟨nq, by rw [zO nq]; exact hq⟩
theorem jg.len {H : Hp} {p : Addr} {rs : List (Addr × List Int)} : (refs rs).length = rs.length := List.length_map _
theorem z0g {rs : List (Addr × List Int)} {i : Nat} (h : i < rs.length) : (refs rs)[i]? = some (V.ref rs[i].1) := by
  rw [List.getElem?_map, List.getElem?_eq_getElem h]
  rfl
theorem int_at {xs : List Int} {i : Nat} (h : i < xs.length) : (xs.map V.int)[i]? = some (.int (xs.getD i 0)) := by
  rw [List.getElem?_map, List.getElem?_eq_getElem h, List.getD_eq_getElem?_getD, List.getElem?_eq_getElem h]
  rfl
theorem z9q {rs : List (Addr × List Int)} {i : Nat} (h : i < rs.length) : atI (refs rs) (0 + (i : Int)) = some (V.ref rs[i].1) := by
  rw [Int.zero_add];exact jr (z0g h)
end Rw

namespace L2
open PySem PySem.Spec PyProof.Rows PySem.W
def kOk (n : Nat) (k : Nat → Int) {α : Type} (Q : α → Prop) : KasT α → Prop
  | .ret a => Q a
  | .ask i j f => i < n ∧ j < n ∧ kOk n k Q (f (decide (k i < k j)))
theorem z0v {n : Nat} {k : Nat → Int} {α β : Type} {Q : β → Prop} {f : α → KasT β} : ∀ {t : KasT α}, kOk n k (fun a => kOk n k Q (f a)) t → kOk n k Q (t.bind f)
  | .ret _, h => h
  | .ask _ _ _, h => ⟨h.1, h.2.1, z0v h.2.2⟩
theorem yr {n : Nat} {k : Nat → Int} {α : Type} {Q Q' : α → Prop} (hq : ∀ a, Q a → Q' a) : ∀ {t : KasT α}, kOk n k Q t → kOk n k Q' t
  | .ret _, h => hq _ h
  | .ask _ _ _, h => ⟨h.1, h.2.1, yr hq h.2.2⟩
theorem z94 {n : Nat} {k : Nat → Int} {cmp : Nat → Nat → (Bool → Shared → Prop) → Shared → Prop} {s : Shared} (hc : ∀ i j C, i < n → j < n → C (decide (k i < k j)) s → cmp i j C s) {α : Type} {Q : α → Shared → Prop} :
    ∀ {t : KasT α}, kOk n k (fun a => Q a s) t → t.kasWp cmp Q s
  | .ret _, h => h
  | .ask _ _ _, h => hc _ _ _ h.1 h.2.1 (z94 hc h.2.2)
theorem z2y {n : Nat} {k : Nat → Int} {α : Type} {Q : α → Prop} {i j : Nat} {a b : KasT α} (hi : i < n) (hj : j < n) (h1 : k i < k j → kOk n k Q a) (h2 : ¬ k i < k j → kOk n k Q b) :
    kOk n k Q (.ask i j fun c => if c = true then a else b) := by
  refine ⟨hi, hj, ?_⟩;by_cases c : k i < k j
  · show kOk n k Q (if decide (k i < k j) = true then a else b)
    rw [if_pos (by simpa using c)]; exact h1 c
  · show kOk n k Q (if decide (k i < k j) = true then a else b)
    rw [if_neg (by simpa using c)]; exact h2 c
def Rk (k : Nat → Int) (x y : Nat) : Prop := k x < k y ∨ (k x = k y ∧ x < y)
theorem Rk.trans {k : Nat → Int} {x y z : Nat} (h : Rk k x y) (h' : Rk k y z) : Rk k x z := by unfold Rk at *; omega
def at' (p : Array Nat) (i : Nat) : Nat := (p[i]?).getD 0
theorem getD_at (p : Array Nat) (i : Nat) : p.getD i 0 = at' p i := by
  unfold at'; simp [Array.getD_eq_getD_getElem?]
structure Ar (n m : Nat) (p : Array Nat) : Prop where
  sz : p.size = n
  mn : m ≤ n
  id : ∀ i, m ≤ i → i < n → at' p i = i
  lo : ∀ i, i < m → at' p i < m
  pm : p.Perm (List.range n).toArray
theorem Ar.lt {n m : Nat} {p : Array Nat} (h : Ar n m p) {i : Nat} (hi : i < n) : at' p i < n := by
  by_cases e : i < m
  · exact Nat.lt_of_lt_of_le (h.lo i e) h.mn
  · rw [h.id i (by omega) hi]; exact hi
theorem Ar.up {n m m' : Nat} {p : Array Nat} (h : Ar n m p) (h1 : m ≤ m') (h2 : m' ≤ n) : Ar n m' p := by
  refine ⟨h.sz, h2, fun i a b => h.id i (by omega) b, fun i a => ?_, h.pm⟩;by_cases e : i < m
  · have := h.lo i e; omega
  · rw [h.id i (by omega) (by omega)]; exact a
def Up (k : Nat → Int) (m : Nat) (p : Array Nat) : Prop := ∀ i j, i < j → j < m → Rk k (at' p i) (at' p j)
def Dn (k : Nat → Int) (m : Nat) (p : Array Nat) : Prop := ∀ i j, i < j → j < m → Rk k (at' p j) (at' p i)
theorem z01 {p : Array Nat} {i j : Nat} (hj : j ≤ p.size) (x : Nat) : at' (kas_rev p i j) x = if i ≤ x ∧ x < j then at' p (i + j - 1 - x) else at' p x := by
  unfold at' kas_rev; rw [getElem?_mirror_all hj]; split <;> rfl
theorem Ar.rev {n m : Nat} {p : Array Nat} (h : Ar n m p) {i j : Nat} (hj : j ≤ m) : Ar n m (kas_rev p i j) := by
  have hs : j ≤ p.size := by rw [h.sz]; exact Nat.le_trans hj h.mn
  refine ⟨by show (mirror _ _ _ _).size = n; rw [mirror_size, h.sz], h.mn, fun x a b => ?_, fun x a => ?_, (mirror_perm _ _ _ _).trans h.pm⟩
  · rw [z01 hs, if_neg (by omega), h.id x a b]
  · rw [z01 hs];split
    · exact h.lo _ (by omega)
    · exact h.lo _ a
theorem Dn.rev {k : Nat → Int} {n m : Nat} {p : Array Nat} (A : Ar n m p) (h : Dn k m p) : Up k m (kas_rev p 0 m) := by
  have hs : m ≤ p.size := by rw [A.sz]; exact A.mn
  intro i j hij hj;rw [z01 hs, z01 hs, if_pos (by omega), if_pos (by omega)];exact h _ _ (by omega) (by omega)
theorem z88 {n : Nat} {k : Nat → Int} {p : Array Nat} : ∀ (f m : Nat), 1 ≤ m → m + f = n → Ar n m p → Up k m p →
    kOk n k (fun m' => m ≤ m' ∧ m' ≤ n ∧ Ar n m' p ∧ Up k m' p) (kas_asc p f m)
  | 0, m, _, hf, A, U => ⟨Nat.le_refl _, by omega, A, U⟩
  | f + 1, m, h1, hf, A, U => by
    show kOk n k _ (KasT.ask _ _ _)
    rw [getD_at, getD_at];have em := A.id m (Nat.le_refl _) (by omega);have lm := A.lo (m - 1) (by omega);refine z2y (by rw [em]; omega) (by omega) (fun c => ?_) fun c => ?_
    · skip
      exact ⟨Nat.le_refl _, by omega, A, U⟩
    · skip
      refine yr (fun a h => ⟨by omega, h.2⟩) (z88 f (m + 1) (by omega) (by omega) (A.up (by omega) (by omega)) ?_);have last : Rk k (at' p (m - 1)) (at' p m) := by unfold Rk; omega
      intro i j hij hj;by_cases e : j < m
      · exact U i j hij e
      · obtain rfl : j = m := by omega
        by_cases e2 : i = j - 1
        · rw [e2]; exact last
        · exact (U i (j - 1) (by omega) (by omega)).trans last
structure Fal (k : Nat → Int) (m q : Nat) (p : Array Nat) : Prop where
  qm : q + 1 ≤ m
  fr : ∀ i j, i < j → j < m - (q + 1) → Rk k (at' p j) (at' p i)
  st : ∀ i j, i < m - (q + 1) → m - (q + 1) ≤ j → j < m → k (at' p j) < k (at' p i)
  eq : ∀ i, m - (q + 1) ≤ i → i < m → k (at' p i) = k (at' p (m - 1))
  or : ∀ i j, i < j → j < m → m - (q + 1) ≤ i → at' p i < at' p j
theorem Fal.dn {k : Nat → Int} {n m q : Nat} {p : Array Nat} (A : Ar n m p) (h : Fal k m q p) : Dn k m (kas_rev p (m - (q + 1)) m) ∧ ∀ x, x < m → k (at' p (m - 1)) ≤ k (at' (kas_rev p (m - (q + 1)) m) x) := by
  have hs : m ≤ p.size := by rw [A.sz]; exact A.mn
  have hq := h.qm;have lowx : ∀ x, x < m → k (at' p (m - 1)) ≤ k (at' p x) := fun x hx => by
    by_cases e : x < m - (q + 1)
    · have := h.st x (m - 1) e (by omega) (by omega); omega
    · rw [h.eq x (by omega) hx]; exact Int.le_refl _
  refine ⟨fun i j hij hj => ?_, fun x hx => ?_⟩
  · rw [z01 hs, z01 hs];by_cases ei : m - (q + 1) ≤ i
    · rw [if_pos (by omega), if_pos (by omega)];have a := h.eq (m - (q + 1) + m - 1 - i) (by omega) (by omega);have b := h.eq (m - (q + 1) + m - 1 - j) (by omega) (by omega);have c := h.or (m - (q + 1) + m - 1 - j) (m - (q + 1) + m - 1 - i) (by omega) (by omega) (by omega);unfold Rk; omega
    · rw [if_neg (show ¬ (m - (q + 1) ≤ i ∧ i < m) by omega)];split
      · exact Or.inl (h.st _ _ (by omega) (by omega) (by omega))
      · exact h.fr _ _ (by omega) (by omega)
  · rw [z01 hs];split
    · exact lowx _ (by omega)
    · exact lowx _ hx
theorem Fal.dn0 {k : Nat → Int} {m : Nat} {p : Array Nat} (h : Fal k m 0 p) : Dn k m p ∧ ∀ x, x < m → k (at' p (m - 1)) ≤ k (at' p x) := by
  have hq := h.qm;refine ⟨fun i j hij hj => ?_, fun x hx => ?_⟩
  · by_cases e : j < m - 1
    · exact h.fr i j hij e
    · exact Or.inl (h.st i j (by omega) (by omega) hj)
  · by_cases e : x < m - 1
    · have := h.st x (m - 1) e (by omega) (by omega); omega
    · obtain rfl : x = m - 1 := by omega
      exact Int.le_refl _
theorem Fal.step {k : Nat → Int} {n m : Nat} {p : Array Nat} (hm : m < n) (h : Dn k m p) {y : Int} (hy : ∀ x, x < m → y ≤ k (at' p x)) (hl : k (at' p m) < y) : Fal k (m + 1) 0 p := by
  refine ⟨by omega, fun i j hij hj => h i j hij (by omega), fun i j hi hj hm' => ?_, fun i a b => ?_, fun i j a b c => by omega⟩
  · obtain rfl : j = m := by omega
    have := hy i (by omega);omega
  · obtain rfl : i = m := by omega
    simp
theorem z30 {n : Nat} {k : Nat → Int} : ∀ (f : Nat) (p : Array Nat) (m q : Nat), m + f = n → Ar n m p → Fal k m q p →
    kOk n k (fun r => m ≤ r.2.1 ∧ r.2.1 ≤ n ∧ Ar n r.2.1 r.1 ∧ Fal k r.2.1 r.2.2 r.1) (kas_desc f p m q)
  | 0, p, m, q, hf, A, F => ⟨Nat.le_refl _, by show m ≤ n; omega, A, F⟩
  | f + 1, p, m, q, hf, A, F => by
    show kOk n k _ (KasT.ask _ _ _)
    rw [getD_at, getD_at];have hq := F.qm;have em := A.id m (Nat.le_refl _) (by omega);have lm := A.lo (m - 1) (by omega);refine z2y (by rw [em]; omega) (by omega) (fun c => ?_) fun c => ?_
    · skip
      have hs : m ≤ p.size := by rw [A.sz]; omega
      by_cases q0 : q > 0
      · rw [if_pos q0];have A' : Ar n m (kas_rev p (m - (q + 1)) m) := A.rev (Nat.le_refl _);have e' : at' (kas_rev p (m - (q + 1)) m) m = at' p m := by rw [z01 hs, if_neg (by omega)]
        exact yr (fun a h => ⟨by omega, h.2⟩) (z30 f _ (m + 1) 0 (by omega) (A'.up (by omega) (by omega)) (Fal.step (n := n) (by omega) (F.dn A).1 (F.dn A).2 (by rw [e']; exact c)))
      · rw [if_neg q0];obtain rfl : q = 0 := by omega
        exact yr (fun a h => ⟨by omega, h.2⟩) (z30 f _ (m + 1) 0 (by omega) (A.up (by omega) (by omega)) (Fal.step (n := n) (by omega) F.dn0.1 F.dn0.2 c))
    · refine z2y (by omega) (by rw [em]; omega) (fun d => ?_) fun d => ?_
      · exact ⟨Nat.le_refl _, by show m ≤ n; omega, A, F⟩
      · have ee : k (at' p m) = k (at' p (m - 1)) := by omega
        refine yr (fun a h => ⟨by omega, h.2⟩) (z30 f _ (m + 1) (q + 1) (by omega) (A.up (by omega) (by omega)) ⟨by omega, fun i j hij hj => ?_, fun i j hi hj hm => ?_, fun i a b => ?_, fun i j hij hj hi => ?_⟩)
        · exact F.fr i j hij (by omega)
        · by_cases e : j < m
          · exact F.st i j (by omega) (by omega) e
          · obtain rfl : j = m := by omega
            rw [ee]; exact F.st i (j - 1) (by omega) (by omega) (by omega)
        · rw [Nat.add_sub_cancel];by_cases e : i < m
          · rw [F.eq i (by omega) e, ee]
          · obtain rfl : i = m := by omega
            rfl
        · by_cases e : j < m
          · exact F.or i j hij e (by omega)
          · obtain rfl : j = m := by omega
            rw [em]; exact A.lo i (by omega)
theorem z5M {n m : Nat} {k : Nat → Int} {p : Array Nat} (h1 : 1 ≤ m) (A : Ar n m p) (D : Dn k m p) :
    kOk n k (fun r => 1 ≤ r.1 ∧ r.1 ≤ n ∧ Ar n r.1 r.2 ∧ Up k r.1 r.2) (kas_tail3 m n p) := by
  refine z0v (yr (fun a h => ?_) (z88 (n - m) m h1 (by have := A.mn; omega) (A.rev (Nat.le_refl _)) (D.rev A)));exact ⟨by show 1 ≤ a; omega, h.2.1, h.2.2.1, h.2.2.2⟩
theorem z2H {n m : Nat} {k : Nat → Int} {p : Array Nat} (h1 : m + 1 ≤ n) (A : Ar n (m + 1) p) (F : Fal k (m + 1) 0 p) :
    kOk n k (fun r => 1 ≤ r.1 ∧ r.1 ≤ n ∧ Ar n r.1 r.2 ∧ Up k r.1 r.2) (kas_descPart m n p) := by
  refine z0v (yr (fun a h => ?_) (z30 (n - (m + 1)) p (m + 1) 0 (by omega) A F));obtain ⟨b1, b2, b3, b4⟩ := h;by_cases q0 : a.2.2 > 0
  · rw [if_pos q0];exact z5M (by omega) (b3.rev (Nat.le_refl _)) (b4.dn b3).1
  · rw [if_neg q0];obtain ⟨p', m', q'⟩ := a;obtain rfl : q' = 0 := by simpa using q0
    exact z5M (by have : m + 1 ≤ m' := b1; show 1 ≤ m'; omega) b3 b4.dn0.1
theorem z74 {n : Nat} {k : Nat → Int} {p : Array Nat} : ∀ (f m : Nat), 1 ≤ m → m + f = n → Ar n m p → Up k m p →
    kOk n k (fun m' => m ≤ m' ∧ m' ≤ n ∧ Ar n m' p ∧ Up k m' p ∧ (m' < n → k (at' p m') < k (at' p (m' - 1)))) (kas_asc p f m)
  | 0, m, _, hf, A, U => ⟨Nat.le_refl _, by omega, A, U, fun h => by omega⟩
  | f + 1, m, h1, hf, A, U => by
    show kOk n k _ (KasT.ask _ _ _)
    rw [getD_at, getD_at];have em := A.id m (Nat.le_refl _) (by omega);have lm := A.lo (m - 1) (by omega);refine z2y (by rw [em]; omega) (by omega) (fun c => ?_) fun c => ?_
    · skip
      exact ⟨Nat.le_refl _, by omega, A, U, fun _ => c⟩
    · skip
      refine yr (fun a h => ⟨by omega, h.2⟩) (z74 f (m + 1) (by omega) (by omega) (A.up (by omega) (by omega)) ?_);have last : Rk k (at' p (m - 1)) (at' p m) := by unfold Rk; omega
      intro i j hij hj;by_cases e : j < m
      · exact U i j hij e
      · obtain rfl : j = m := by omega
        by_cases e2 : i = j - 1
        · rw [e2]; exact last
        · exact (U i (j - 1) (by omega) (by omega)).trans last
theorem z9b {n : Nat} {k : Nat → Int} {p : Array Nat} (hn : 1 ≤ n) (A : Ar n 1 p) : kOk n k (fun r => 1 ≤ r.1 ∧ r.1 ≤ n ∧ Ar n r.1 r.2 ∧ Up k r.1 r.2) (kas_count n p) := by
  refine z0v (yr (fun m h => ?_) (z74 (n - 1) 1 (Nat.le_refl _) (by omega) A (fun i j a b => by omega)));obtain ⟨b1, b2, b3, b4, b5⟩ := h;by_cases e : m = n
  · rw [if_pos (by simpa using e)];exact ⟨b1, b2, b3, b4⟩
  rw [if_neg (by simpa using e)];have hs : m ≤ p.size := by rw [A.sz]; exact b2
  have b5' := b5 (by omega);by_cases e1 : m > 1
  · rw [if_pos e1]
    show kOk n k _ (KasT.ask _ _ _)
    rw [getD_at, getD_at];refine z2y (b3.lt (by omega)) (b3.lt (by omega)) (fun c => ?_) fun c => ?_
    · exact ⟨b1, b2, b3, b4⟩
    · have A' : Ar n m (kas_rev p 0 m) := b3.rev (Nat.le_refl _);have eqs : ∀ i, i < m → k (at' p i) = k (at' p (m - 1)) := fun i hi => by
        have h0 : k (at' p 0) ≤ k (at' p i) := by
          by_cases e : i = 0
          · rw [e]; exact Int.le_refl _
          · have := b4 0 i (by omega) hi; unfold Rk at this; omega
        have h1 : k (at' p i) ≤ k (at' p (m - 1)) := by
          by_cases e : i = m - 1
          · rw [← e]; exact Int.le_refl _
          · have := b4 i (m - 1) (by omega) (by omega); unfold Rk at this; omega
        omega
      have D : Dn k m (kas_rev p 0 m) := fun i j hij hj => by
        rw [z01 hs, z01 hs, if_pos (by omega), if_pos (by omega)];exact b4 _ _ (by omega) (by omega)
      refine z2H (by omega) (A'.up (by omega) (by omega)) (Fal.step (n := n) (y := k (at' p (m - 1))) (by omega) D (fun x hx => ?_) ?_)
      · rw [z01 hs, if_pos (by omega)];have := eqs (0 + m - 1 - x) (by omega);omega
      · rw [z01 hs, if_neg (by omega)]; exact b5'
  · rw [if_neg e1];obtain rfl : m = 1 := by omega
    refine z2H (by omega) (b3.up (by omega) (by omega)) (Fal.step (n := n) (y := k (at' p 0)) (by omega) (fun i j a b => by omega) (fun x hx => ?_) b5');obtain rfl : x = 0 := by omega
    exact Int.le_refl _
theorem z3o {n m : Nat} {k : Nat → Int} {p : Array Nat} (hm : m < n) (A : Ar n m p) (U : Up k m p) : ∀ (f l r : Nat), l ≤ r → r ≤ m → r - l ≤ f →
    (∀ i, i < l → k (at' p i) ≤ k (at' p m)) → (∀ i, r ≤ i → i < m → k (at' p m) < k (at' p i)) →
    kOk n k (fun l' => l' ≤ m ∧ (∀ i, i < l' → k (at' p i) ≤ k (at' p m)) ∧ ∀ i, l' ≤ i → i < m → k (at' p m) < k (at' p i)) (kas_place p m f l r)
  | 0, l, r, h1, h2, h3, a, b => ⟨by omega, a, fun i x y => b i (by omega) y⟩
  | f + 1, l, r, h1, h2, h3, a, b => by
    unfold kas_place;by_cases e : l ≥ r
    · rw [if_pos e];exact ⟨by omega, a, fun i x y => b i (by omega) y⟩
    rw [if_neg e, getD_at, getD_at];refine z2y (A.lt hm) (A.lt (by omega)) (fun c => ?_) fun c => ?_
    · refine z3o hm A U f l ((l + r) / 2) (by omega) (by omega) (by omega) a fun i x y => ?_
      by_cases e2 : i = (l + r) / 2
      · rw [e2]; exact c
      · have := U ((l + r) / 2) i (by omega) y; unfold Rk at this; omega
    · refine z3o hm A U f ((l + r) / 2 + 1) r (by omega) (by omega) (by omega) (fun i x => ?_) b;by_cases e2 : i = (l + r) / 2
      · rw [e2]; omega
      · have := U i ((l + r) / 2) (by omega) (by omega); unfold Rk at this; omega
theorem z7Z {p : Array Nat} {m d : Nat} (hm : m < p.size) (hd : d ≤ m) (x : Nat) : at' (bubble p m d) x = if x = m - d then at' p m else if m - d < x ∧ x ≤ m then at' p (x - 1) else at' p x := by
  unfold at'; rw [getElem?_bubble hm d hd]; split
  · rfl
  · split <;> rfl
theorem z97 {n : Nat} {k : Nat → Int} : ∀ (f : Nat) (p : Array Nat) (m : Nat), m + f = n → Ar n m p → Up k m p →
    kOk n k (fun p' => Ar n n p' ∧ Up k n p') (kas_bin f p m)
  | 0, p, m, h, A, U => by
    obtain rfl : m = n := by omega
    exact ⟨A, U⟩
  | f + 1, p, m, h, A, U => by
    have hs : m < p.size := by rw [A.sz]; omega
    have em := A.id m (Nat.le_refl _) (by omega);refine z0v (yr (fun l hl => ?_) (z3o (by omega) A U m 0 m (by omega) (Nat.le_refl _) (by omega) (fun i x => by omega) (fun i x y => by omega)));obtain ⟨c1, c2, c3⟩ := hl;have eb : ∀ x, at' (bubble p m (m - l)) x = if x = l then at' p m else if l < x ∧ x ≤ m then at' p (x - 1) else at' p x := fun x => by
      rw [z7Z hs (by omega), show m - (m - l) = l by omega]
    refine z97 f _ (m + 1) (by omega) ⟨by rw [bubble_size, A.sz], by omega, fun i a b => ?_, fun i a => ?_, (bubble_perm _ _ _).trans A.pm⟩ fun i j hij hj => ?_
    · rw [eb, if_neg (by omega), if_neg (by omega)]; exact A.id i (by omega) b
    · rw [eb];split
      · omega
      · split
        · have := A.lo (i - 1) (by omega); omega
        · have := A.lo i (by omega); omega
    · rw [eb, eb];have hlow : ∀ x, x < m → at' p x < at' p m := fun x hx => by rw [em]; exact A.lo x hx
      by_cases e1 : i = l
      · rw [if_pos e1, if_neg (by omega), if_pos (by omega)];exact Or.inl (c3 (j - 1) (by omega) (by omega))
      · rw [if_neg e1];by_cases e2 : l < i ∧ i ≤ m
        · rw [if_pos e2, if_neg (by omega), if_pos (by omega)];exact U _ _ (by omega) (by omega)
        · rw [if_neg e2];by_cases e3 : j = l
          · rw [if_pos e3];have a := c2 i (by omega);have b := hlow i (by omega);unfold Rk; omega
          · rw [if_neg e3];by_cases e4 : l < j ∧ j ≤ m
            · rw [if_pos e4]; exact U _ _ (by omega) (by omega)
            · rw [if_neg e4]; exact U _ _ (by omega) (by omega)
theorem Ar.all {n : Nat} : Ar n 0 (List.toArray (List.range n)) := by
  refine ⟨by simp, Nat.zero_le _, fun i _ h => ?_, fun i h => by omega, Array.Perm.refl _⟩;unfold at';simp [h]
theorem za8 {n : Nat} (hn : 1 ≤ n) (k : Nat → Int) : kOk n k (fun p => p.toList.Perm (List.range n) ∧ p.toList.Pairwise (Rk k)) (kas_sort n) := by
  have fin : ∀ p : Array Nat, Ar n n p → Up k n p → p.toList.Perm (List.range n) ∧ p.toList.Pairwise (Rk k) := fun p A U => by
    refine ⟨by have := A.pm; rw [Array.perm_iff_toList_perm] at this; simpa using this, ?_⟩;rw [List.pairwise_iff_getElem];intro i j hi hj hij;have hj' : j < n := by rw [← A.sz]; simpa using hj
    have := U i j hij hj';unfold at' at this;have hi2 : i < p.size := by rw [A.sz]; omega
    have hj2 : j < p.size := by rw [A.sz]; omega
    simpa [hi2, hj2] using this
  refine z0v (yr (fun r h => ?_) (z9b hn (Ar.all.up (by omega) hn)));obtain ⟨b1, b2, b3, b4⟩ := h;by_cases e : r.1 < n
  · rw [if_pos e];have hm : max r.1 1 = r.1 := by omega
    rw [hm];exact yr (fun p h => fin p h.1 h.2) (z97 (n - r.1) r.2 r.1 (by omega) b3 b4)
  · rw [if_neg e];have e' : r.1 = n := by omega
    rw [e'] at b3 b4;exact fin r.2 b3 b4
end L2

namespace L2
open PySem PySem.Spec PyProof.Rows PySem.W
theorem z66 {ss : List Str} : ∀ {us : List Value}, jb (ss.map V.str) us → StrsAre us ss := by
  induction ss with
  | nil => intro us r; rw [List.map_nil] at r; cases r; exact .nil
  | cons n ns ih =>
    intro us r;rw [List.map_cons] at r;cases r with
    | cons r1 r2 =>
      obtain ⟨t, rfl⟩ := r1;exact .cons _ _ (ih r2)
section
variable {X : Cx}
theorem z0W (hc : X.calm = true) : z03 X (.builtin "sum") (fun xs H Q => ∃ (a : Addr) (ns : List Int), xs = [.ref a] ∧ SqL X.K H a (ns.map V.int) ∧ Q (.int ns.sum) H) := by
  intro pins s σ H xs us Q I r h;obtain ⟨a, ns, rfl, hq, q⟩ := h;obtain ⟨u, rfl, rx⟩ := vals1 r;cases rx;obtain ⟨its, r', pl, hz⟩ := I.list hq;have hi : IntsAre its.toArray.toList ns := intsAre_of r';obtain ⟨xs, hx⟩ := hi.allInts.items;have hl' : s.heap.IsList a (intItems xs) := hx ▸ pl.isList;refine sum_intListG (I.ok.hd hc) hl' fun h' tk t' hk => ?_
  have e1 : ns = xs.toList.map (·.1) := by
    rw [← nums_intItems, ← hx];exact (show numsOf its.toArray.toList = ns from hi.numsOf).symm
  have e2 : preSum (numAt xs) xs.size = ns.sum := by
    rw [preSum_eq, List.take_of_length_le (by simp), e1]
  rw [e2];exact ⟨.int ns.sum, H, I.kept hk, ⟨_, rfl⟩, q⟩
def z9d (x : V) (z : Str) : Prop := (∃ i : Int, x = .int i ∧ i.natAbs.log2 < 1920 ∧ z = toString i) ∨ x = .str z
theorem z1u : z03 X (.type "str") (fun xs H Q => ∃ x z, xs = [x] ∧ z9d x z ∧ Q (.str z) H) := by
  intro pins s σ H xs us Q I r h;obtain ⟨x, z, rfl, h, q⟩ := h;rcases h with ⟨i, rfl, hi, rfl⟩ | rfl
  · exact z50 pins s σ H _ us Q I r ⟨i, rfl, hi, q⟩
  · obtain ⟨u, rfl, t, rfl⟩ := vals1 r;exact PySem.P.str_of_str ⟨.str z, H, I, ⟨_, rfl⟩, q⟩
def rJoin (K : PySem.W.Frag) : V → List V → Hp → VK → Prop := fun x vs H Q => ∃ z l ys, x = .str z ∧ vs = [.ref l] ∧ SqL K H l (ys.map V.str) ∧ (ys.map (·.length)).sum + ys.length * z.length ≤ 16777216 ∧ Q (.str (Str.join z ys)) H
theorem z6V : MtM X "str.join" (rJoin X.K) := by
  intro pins s σ H x vs v us Q I rx rv h;obtain ⟨z, l, ys, rfl, rfl, hq, hz, q⟩ := h;obtain ⟨t, rfl⟩ := rx;obtain ⟨u, rfl, ru⟩ := rv.one;cases ru;obtain ⟨its, r, pl, hsz⟩ := I.list hq;refine join_list (items := its.toArray) pl.isList (z66 r) hz fun t' k => ?_
  have e : Txt.join z ys = Str.join z ys := StrLaws.glued_eq_join _ _;rw [e];exact ⟨.str _, H, I.tok _, ⟨_, rfl⟩, q⟩
def eqL (xs ys : List V) : Bool := decide (xs.length = ys.length) && (List.range xs.length).all fun j => eqV (xs.getD j .non) (ys.getD j .non)
def z9p (K : PySem.W.Frag) : R2 := fun x y H Q => ∃ a b xs ys, x = .ref a ∧ y = .ref b ∧ SqL K H a xs ∧ SqL K H b ys ∧ xs.all z0e = true ∧ ys.all z0e = true ∧ Q (.bl (eqL xs ys)) H
theorem z7R (hu1 : X.A.units + 1 < cLine) : OpR X (compareOp .Eq) (z9p X.K) := by
  intro pins s σ H x y v u Q I rx ry h;have hu : X.A.units < cLine := by omega
  obtain ⟨a, b, xs, ys, rfl, rfl, ha, hb, fx, fy, q⟩ := h;cases rx;cases ry;obtain ⟨its, r, pl, hz⟩ := I.list ha;obtain ⟨its2, r2, pl2, _⟩ := I.list hb;have l1 := r.length;have l2 := r2.length;by_cases hl : xs.length = ys.length
  · refine SeqAt.eq_listAt (e := fun j => eqV (xs.getD j .non) (ys.getD j .non)) pl.isList pl2.isList (by rw [List.size_toArray, List.size_toArray]; omega) hu (fun j h1 h2 => ?_) ?_
    · have hx : j < xs.length := by rw [List.size_toArray] at h1; omega
      have hy : j < ys.length := by omega
      have gx : xs[j]? = some xs[j] := List.getElem?_eq_getElem hx;have gy : ys[j]? = some ys[j] := List.getElem?_eq_getElem hy;obtain ⟨w1, e1, rw1⟩ := r.get gx;obtain ⟨w2, e2, rw2⟩ := r2.get gy;have hh1 : its.toArray[j] = w1 := by rw [List.getElem_toArray]; exact (List.getElem?_eq_some_iff.mp e1).2
      have hh2 : its2.toArray[j] = w2 := by rw [List.getElem_toArray]; exact (List.getElem?_eq_some_iff.mp e2).2
      rw [hh1, hh2, List.getD_eq_getElem?_getD, List.getD_eq_getElem?_getD, gx, gy];exact z8p rw1 rw2 (List.all_eq_true.mp fx _ (List.mem_of_getElem? gx)) (List.all_eq_true.mp fy _ (List.mem_of_getElem? gy))
    · refine ⟨.bl (eqL xs ys), H, I, ?_, q⟩
      show Value.bool _ = Value.bool _
      rw [eqL, decide_eq_true hl, Bool.true_and, List.size_toArray, ← l1]
  · refine SeqAt.eq_list_lengthsAt pl.isList pl2.isList ?_ hu ⟨.bl (eqL xs ys), H, I, ?_, q⟩
    · rw [List.size_toArray, List.size_toArray, bne_iff_ne, ← l1, ← l2]; exact hl
    · show Value.bool false = Value.bool _
      rw [eqL, decide_eq_false hl, Bool.false_and]
end
theorem z89 {ss tt : List Str} : eqL (ss.map V.str) (tt.map V.str) = decide (ss = tt) := by
  unfold eqL;rw [List.length_map, List.length_map];by_cases e : ss = tt
  · subst e;rw [decide_eq_true rfl, decide_eq_true rfl, Bool.true_and, List.all_eq_true];intro j hj;rw [List.mem_range] at hj;rw [List.getD_eq_getElem?_getD, List.getElem?_map, List.getElem?_eq_getElem hj]
    show (ss[j] == ss[j]) = true
    exact beq_self_eq_true _
  · rw [decide_eq_false e];by_cases hl : ss.length = tt.length
    · rw [decide_eq_true hl, Bool.true_and, Bool.eq_false_iff];intro h;rw [List.all_eq_true] at h;refine e (List.ext_getElem hl fun j h1 h2 => ?_);have := h j (List.mem_range.mpr h1);rw [List.getD_eq_getElem?_getD, List.getElem?_map, List.getElem?_eq_getElem h1, List.getD_eq_getElem?_getD, List.getElem?_map, List.getElem?_eq_getElem h2] at this;have h3 : (ss[j] == tt[j]) = true := this;exact eq_of_beq h3
    · rw [decide_eq_false hl, Bool.false_and]
theorem z8E {K : PySem.W.Frag} {a : Addr} {xs : List V} {σ : St} {ix : List Nat} {tc : TT} {te : TE} {Q : List V → Hp → Prop} {H : Hp} (Pv : Nat → List V → Hp → Prop) (h0 : Pv 0 [] H) (hl : ∀ i ys H, i ≤ xs.length → Pv i ys H → SqT K H a xs ∧ ys.length < sizeLine)
    (hs : ∀ (i : Nat) x ys H, xs[i]? = some x → Pv i ys H → tc (sub σ ix (some x)) H fun b H2 => if b = true then te (sub σ ix (some x)) H2 fun y H3 => Pv (i + 1) (ys ++ [y]) H3 else Pv (i + 1) ys H2) (hd : ∀ ys H, Pv xs.length ys H → Q ys H) : z0P (Itt K a) σ ix tc te Q H := by
  refine ⟨fun i m ys H => m = xs.length - i ∧ i ≤ xs.length ∧ Pv i ys H, ⟨_, rfl, Nat.zero_le _, h0⟩, ?_⟩;rintro i m ys H ⟨rfl, hi, p⟩;obtain ⟨q, hz⟩ := hl i ys H hi p;refine ⟨hz, ?_⟩;by_cases hlt : i < xs.length
  · refine .inr ⟨⟨xs, xs[i], q, by simp [hlt]⟩, fun y H3 => Pv (i + 1) (ys ++ [y]) H3, fun H2 => Pv (i + 1) ys H2, fun y H3 z => ⟨xs.length - (i + 1), by omega, rfl, hlt, z⟩, fun H2 z => ⟨xs.length - (i + 1), by omega, rfl, hlt, z⟩, fun x H' y => ?_⟩;obtain ⟨e, y⟩ := y;subst e;exact hs i x ys _ (y xs q) p
  · have e : i = xs.length := by omega
    subst e;exact .inl ⟨⟨xs, q, Nat.le_refl _⟩, hd ys H p⟩
theorem z44 {K : PySem.W.Frag} {a : Addr} {xs : List V} {σ : St} {ix : List Nat} {te : TE} {Q : List V → Hp → Prop} {H : Hp} (Pv : Nat → List V → Hp → Prop) (h0 : Pv 0 [] H) (hl : ∀ i ys H, i ≤ xs.length → Pv i ys H → SqT K H a xs ∧ ys.length < sizeLine)
    (hs : ∀ (i : Nat) x ys H, xs[i]? = some x → Pv i ys H → te (sub σ ix (some x)) H fun y H3 => Pv (i + 1) (ys ++ [y]) H3) (hd : ∀ ys H, Pv xs.length ys H → Q ys H) : z0P (Itt K a) σ ix z5w te Q H :=
  z8E Pv h0 hl (fun i x ys H e p => zab (A := te (sub σ ix (some x)) H fun y H3 => Pv (i + 1) (ys ++ [y]) H3) (B := Pv (i + 1) ys H) (hs i x ys H e p)) hd
theorem z4s {p q : Nat → Bool} : ∀ {l : List Nat}, (∀ x ∈ l, p x = true → q x = true) → (∃ x ∈ l, q x = true ∧ p x = false) → l.countP p < l.countP q
  | [], _, ⟨x, hx, _⟩ => by cases hx
  | y :: l, h, ⟨x, hx, h1, h2⟩ => by
    have hle : l.countP p ≤ l.countP q := List.countP_mono_left fun z hz => h z (List.mem_cons_of_mem _ hz)
    rw [List.countP_cons, List.countP_cons];rcases List.mem_cons.mp hx with rfl | hx
    · rw [h1, h2]; simp; omega
    · have ih := z4s (fun z hz => h z (List.mem_cons_of_mem _ hz)) ⟨x, hx, h1, h2⟩;have hy := h y List.mem_cons_self;cases hp : p y <;> cases hq : q y <;> simp_all <;> omega
def rank (n : Nat) (lt : Nat → Nat → Bool) (i : Nat) : Int := (((List.range n).countP fun m => lt m i : Nat) : Int)
theorem z9Z {n : Nat} {lt : Nat → Nat → Bool} (ir : ∀ i, lt i i = false) (tr : ∀ i j k, lt i j = true → lt j k = true → lt i k = true) (nt : ∀ i j k, lt i k = true → lt i j = true ∨ lt j k = true) {i j : Nat} (hi : i < n) (hj : j < n) :
    decide (rank n lt i < rank n lt j) = lt i j := by
  cases h : lt i j with
  | true =>
    refine decide_eq_true ?_;have : (List.range n).countP (fun m => lt m i) < (List.range n).countP (fun m => lt m j) := z4s (fun x _ e => tr x i j e h) ⟨i, List.mem_range.mpr hi, h, ir i⟩;unfold rank; omega
  | false =>
    refine decide_eq_false ?_;have : (List.range n).countP (fun m => lt m j) ≤ (List.range n).countP (fun m => lt m i) := List.countP_mono_left fun x _ e => by
      rcases nt x i j e with h' | h'
      · exact h'
      · rw [h] at h'; cases h'
    unfold rank; omega
theorem z3X {prog : Program} {w : World} {A : Around} {E : Value → Shared → Prop} {s : Shared} {a : Addr} {vs : List Value} {n : Nat} {P : PySem.Fin → Shared → Prop} {κ : SortKind} {k : Nat → Int} (ho : s.heap.get? a = some (seqObj "list" vs.toArray n)) (h64 : vs.length < 64)
    (hkk : 2 ≤ vs.length → ∀ (h' : Heap) (Q : SortKind → Shared → Prop), (∀ b o, b ≠ a → s.heap.get? b = some o → h'.get? b = some o) → Q κ { s with heap := h' } → wpAny (model prog w) A (keyKind' vs.toArray) Q E { s with heap := h' })
    (hcm : ∀ (h' : Heap), (∀ b o, b ≠ a → s.heap.get? b = some o → h'.get? b = some o) → ∀ i j (C : Bool → Shared → Prop), i < vs.length → j < vs.length → C (decide (k i < k j)) { s with heap := h' } →
      wpAny (model prog w) A (keyLt' κ (vs.getD i Value.none) (vs.getD j Value.none)) C (fun _ _ => False) { s with heap := h' })
    (h : ∀ is : List Nat, is.Perm (List.range vs.length) → is.Pairwise (Rk k) → P (.done (.ret .none)) { s with heap := sortedHeap s.heap a vs (is.map fun i => vs.getD i Value.none).toArray }) :
    wpAny (model prog w) A (Builtin.«list.sort» ⟨[.ref a], []⟩) P E s := by
  rw [list_sort_plain];have ha : a < s.heap.objs.size := Heap.lt_size ho;refine wpAny_bind (listItems_at ho rfl ?_);refine wpAny_bind (listUpdate_at ho rfl ?_);obtain ⟨e1, ho1⟩ : ∃ e1, (s.heap.update a (Obj.mapSeq fun _ => #[])).get? a = some (seqObj "list" #[] e1) := ⟨_, get?_update_seq ho (fun _ => #[])⟩
  refine wpAny_bind (seqEpoch_at ho1 rfl ?_);refine wpAny_bind (wpAny_newTuple ?_);refine wpAny_bind (wpAny_newList ?_);refine wpAny_holding ?_;have ho6 : (((s.heap.update a (Obj.mapSeq fun _ => #[])).push (seqObj "tuple" vs.toArray 0)).push (seqObj "list" #[] 0)).get? a = some (seqObj "list" #[] e1) := by
    rw [Heap.get?_push_ne _ _ _ (by rw [size_push', Heap.size_update]; exact Nat.ne_of_lt (Nat.lt_succ_of_lt ha)), Heap.get?_push_ne _ _ _ (by rw [Heap.size_update]; exact Nat.ne_of_lt ha)];exact ho1
  have kp : ∀ b o, b ≠ a → s.heap.get? b = some o → (((s.heap.update a (Obj.mapSeq fun _ => #[])).push (seqObj "tuple" vs.toArray 0)).push (seqObj "list" #[] 0)).get? b = some o := fun b o hb e => by
    refine Heap.get?_push_of_some _ (Heap.get?_push_of_some _ ?_);rw [Heap.get?_update_ne _ _ _ _ hb];exact e
  show wpAny (model prog w) A _ P E { s with heap := ((s.heap.update a (Obj.mapSeq fun _ => #[])).push (seqObj "tuple" vs.toArray 0)).push (seqObj "list" #[] 0) }
  dsimp only;have hsz : vs.toArray.size = vs.length := by simp
  by_cases h2 : vs.toArray.size < 2
  · rw [if_pos h2, if_pos h2];refine wpAny_bind (wpAny_pure ?_);rw [StateT.run_pure];refine wpAny_bind (wpAny_pure ?_);dsimp only;refine wpAny_bind (seqEpoch_at ho6 rfl ?_);refine wpAny_bind (listUpdate_at ho6 rfl ?_ (hsz2 := by rw [Array.size_map]; show (pairsOf vs).size ≤ _; rw [pairsOf_size, sizeLine_eq]; omega));simp only [bne_self_eq_false, Bool.false_eq_true, if_false];have hs' : vs.length < 2 := by omega
    have e0 : (arrOf (SortSt.mk' general' (vs.toArray.zip vs.toArray) #[] 7 none)).map (·.2) = ((List.range vs.length).map fun i => vs.getD i Value.none).toArray := by
      have e9 : arrOf (SortSt.mk' general' (vs.toArray.zip vs.toArray) #[] 7 none) = vs.toArray.zip vs.toArray := rfl;rw [e9]
      match vs, hs' with
      | [], _ => simp
      | [x], _ => simp
    refine wpAny_pure ?_;have := h (List.range vs.length) (List.Perm.refl _) (by
      match vs, hs' with
      | [], _ => exact List.Pairwise.nil
      | [x], _ => exact List.pairwise_singleton _ _)
    rw [← e0] at this;exact this
  · rw [if_neg h2, if_neg h2];refine wpAny_bind (hkk (by omega) _ _ kp ?_);refine wpAny_bind (wpAny_mono (kat_run (Q := fun st' s' => ∃ p : Array Nat, (arrOf st').map (·.2) = (p.toList.map fun i => vs.getD i Value.none).toArray ∧ failedOf st' = none ∧ s' = { s with heap := ((s.heap.update a (Obj.mapSeq fun _ => #[])).push (seqObj "tuple" vs.toArray 0)).push (seqObj "list" #[] 0) } ∧ p.toList.Perm (List.range vs.length) ∧ p.toList.Pairwise (Rk k)) (vs := vs) (ks := vs) (G := fun p s' => s' = { s with heap := ((s.heap.update a (Obj.mapSeq fun _ => #[])).push (seqObj "tuple" vs.toArray 0)).push (seqObj "list" #[] 0) } ∧ p.toList.Perm (List.range vs.length) ∧ p.toList.Pairwise (Rk k)) rfl (by omega) h64 (fun p st' s' h1 h3 h4 h5 => ⟨p, kat_snds rfl h3, h4, h5⟩)
      (z94 (n := vs.length) (k := k) (fun i j C hi hj hC => hcm _ kp i j C hi hj hC) (yr (fun p hp => ⟨rfl, hp⟩) (za8 (by omega) k)))) ?_ fun _ _ e => e)
    rintro ⟨⟨⟩, st'⟩ s' ⟨p, e0, h4, rfl, pm, pw⟩;dsimp only;refine wpAny_bind (seqEpoch_at ho6 rfl ?_);refine wpAny_bind (listUpdate_at ho6 rfl ?_ (hsz2 := by rw [e0, List.size_toArray, List.length_map, pm.length_eq, List.length_range, sizeLine_eq]; omega));rw [h4];simp only [bne_self_eq_false, Bool.false_eq_true, if_false];have := h p.toList pm pw;rw [← e0] at this;exact wpAny_pure this
def z0S (a b : Int × Int) : Bool := decide (a.1 < b.1 ∨ (a.1 = b.1 ∧ a.2 < b.2))
theorem za1 {prog : Program} {w : World} {A : Around} {s : Shared} {x y : Addr} {a b c d : Int} {t u v z : Tok} {C : Bool → Shared → Prop} {E : Value → Shared → Prop} (hx : IsTup s.heap x #[.int a t, .int b u]) (hy : IsTup s.heap y #[.int c v, .int d z]) (h : C (z0S (a, b) (c, d)) s) :
    wpAny (model prog w) A (keyLt' (tuples' true) (.ref x) (.ref y)) C E s := by
  obtain ⟨ox, hx1, _, n1, hx2⟩ := hx;obtain ⟨oy, hy1, _, n2, hy2⟩ := hy;refine kat_lt hx1 hx2 hy1 hy2 ?_;refine kat_cons (SeqAt.EqAt.int_int a t c v prog w _ _ (kat_go (fun e => kat_yes ?_) (fun e => kat_no ?_)))
  · have e1 : a = c := by simpa using e
    refine kat_cons (SeqAt.EqAt.int_int b u d z prog w _ _ (kat_go (fun e => kat_yes (kat_nil ?_)) (fun e => kat_no ?_)))
    · have e2 : b = d := by simpa using e
      have : z0S (a, b) (c, d) = false := decide_eq_false (by simp only; omega);rw [this] at h
      simpa using h
    · have : z0S (a, b) (c, d) = decide (b < d) := by
        unfold z0S;exact decide_eq_decide.mpr (by simp only; omega)
      rw [this] at h;refine kat_one _ _ ?_;exact PyProof.Rows.lt_int (Q := PySem.W.BoolBack C) h
  · have e1 : ¬ a = c := by simpa using e
    have : z0S (a, b) (c, d) = decide (a < c) := by
      unfold z0S;exact decide_eq_decide.mpr (by simp only; omega)
    rw [this] at h;exact oneLt_int h
theorem z8j (a : Int × Int) : z0S a a = false := decide_eq_false (by omega)
theorem z9w {a b c : Int × Int} (h : z0S a b = true) (h' : z0S b c = true) : z0S a c = true := by
  have h := of_decide_eq_true h;have h' := of_decide_eq_true h';exact decide_eq_true (by omega)
theorem z9o {a b c : Int × Int} (h : z0S a c = true) : z0S a b = true ∨ z0S b c = true := by
  have h := of_decide_eq_true h;by_cases e : z0S a b = true
  · exact .inl e
  · refine .inr (decide_eq_true ?_);have e' : ¬ (a.1 < b.1 ∨ (a.1 = b.1 ∧ a.2 < b.2)) := fun z => e (decide_eq_true z)
    omega
abbrev PQ := Addr × Int × Int
def pq0 : PQ := (0, 0, 0)
section
variable {X : Cx}
theorem z7j {H : Hp} {s : Shared} {pins : List (Addr × Obj)} {σ : St} (I : Inv X pins σ H s) {h' : Heap} (kp : ∀ b o xs n, s.heap.get? b = some o → o.data = .seq xs n → o.cls = .type "tuple" → h'.get? b = some o) : ∀ (ps : List PQ) (us : List Value), (∀ p ∈ ps, H p.1 = some (.tup [.int p.2.1, .int p.2.2])) → jb (ps.map fun p => V.ref p.1) us →
    ∃ fs : List Value, KatTups h' us fs ∧ fs.length = ps.length ∧ ∀ v ∈ fs, ∃ a t, v = Value.int a t
  | [], us, _, r => by cases r; exact ⟨[], .nil, rfl, fun v h => by cases h⟩
  | p :: ps, us, hp, r => by
    rw [List.map_cons] at r;cases r with
    | cons r1 r2 =>
      cases r1;obtain ⟨fs, k, l, hi⟩ := z7j I kp ps _ (fun q hq => hp q (List.mem_cons_of_mem _ hq)) r2;obtain ⟨its, r', pl, _⟩ := I.tuple (SqT.of (hp p List.mem_cons_self));obtain ⟨u, w', rfl, ⟨t, rfl⟩, _⟩ := vals2 r';obtain ⟨o, ho, hcl, n, hd⟩ := pl;refine ⟨.int p.2.1 t :: fs, KatTups.cons (kp _ _ _ _ ho hd hcl) hcl hd rfl k, by rw [List.length_cons, l, List.length_cons], fun v hv => ?_⟩;rcases List.mem_cons.mp hv with rfl | hv
      · exact ⟨_, _, rfl⟩
      · exact hi v hv
theorem z55 (hc : X.calm = true) : z03 X (.builtin "sorted") (fun xs H Q => ∃ (l : Addr) (ps : List PQ), xs = [.ref l] ∧ SqL X.K H l (ps.map fun p => V.ref p.1) ∧ (∀ p ∈ ps, H p.1 = some (.tup [.int p.2.1, .int p.2.2])) ∧ ps.length < 64 ∧
    ∀ (r : Addr) (is : List Nat), H r = none → is.Perm (List.range ps.length) → is.Pairwise (fun i j => z0S (ps.getD j pq0).2 (ps.getD i pq0).2 = false) → Q (.ref r) (upd H r (.lst (is.map fun i => V.ref (ps.getD i pq0).1)))) := by
  intro pins s σ H xs us Q I r h;obtain ⟨l, ps, rfl, hq, hp, h64, q⟩ := h;obtain ⟨u, rfl, rx⟩ := vals1 r;cases rx;obtain ⟨vs, rv, pl, hz⟩ := I.list hq;have hlen : vs.length = ps.length := by
    have := rv.length;rw [List.length_map] at this;omega
  refine Calls.call_function_entry kind_sorted plain_sorted entry_sorted (args_sorted1 _) ?_;unfold Builtin.«sorted»;refine wpAny_bind (m := checkCount "sorted" 1 1 _) (wpAny_pure ?_);refine wpAny_bind (collect_list pl.isList ?_ (by rw [sizeLine_eq]; omega));refine wpAny_bind (wpAny_newList ?_ (by rw [sizeLine_eq]; omega));obtain ⟨h1, eh1⟩ : ∃ h1, (s.heap.push (seqObj "list" #[] 0)).update s.heap.objs.size (Obj.mapSeq (· ++ vs.toArray)) = h1 := ⟨_, rfl⟩
  have kp1 : ∀ b o, s.heap.get? b = some o → h1.get? b = some o := fun b o e => by
    have hb := Heap.lt_size e;rw [← eh1, Heap.get?_update_ne _ _ _ _ (Nat.ne_of_lt hb)];exact Heap.get?_push_of_some _ e
  rw [eh1];have I1 : Inv X pins σ H { s with heap := h1 } := I.kept (t' := s.toks) kp1;have hoL : (h1.push (seqObj "list" vs.toArray 0)).get? h1.objs.size = some (seqObj "list" vs.toArray 0) := Heap.get?_push_size _ rfl;have kp2 : ∀ b o, s.heap.get? b = some o → b ≠ h1.objs.size ∧ (h1.push (seqObj "list" vs.toArray 0)).get? b = some o := fun b o e => ⟨Nat.ne_of_lt (Heap.lt_size (kp1 b o e)), Heap.get?_push_of_some _ (kp1 b o e)⟩
  obtain ⟨lt, hlt⟩ : ∃ lt : Nat → Nat → Bool, lt = fun i j => z0S (ps.getD i pq0).2 (ps.getD j pq0).2 := ⟨_, rfl⟩
  have rk : ∀ {i j : Nat}, i < ps.length → j < ps.length → decide (rank ps.length lt i < rank ps.length lt j) = lt i j := fun hi hj =>
    z9Z (fun i => by rw [hlt]; exact z8j _) (fun i j k a b => by rw [hlt] at *; exact z9w a b) (fun i j k a => by rw [hlt] at *; exact z9o a) hi hj
  refine wpAny_bind (wpAny_holding (wpAny_call_entry slot_list_sort ⟨_, hoL, rfl⟩ entry_list_sort (z3X (κ := tuples' true) (k := rank ps.length lt) hoL (by omega) (fun h2 h' Q' kp hQ => ?kk) (fun h' kp i j C hi hj hC => ?cm) fun is pm pw => ⟨_, rfl, ?fin⟩) (args_list_sort _)))
  case kk =>
    obtain ⟨fs, k, lf, hi⟩ := z7j I (h' := h') (fun b o xs n e _ _ => kp b o (kp2 b o e).1 (kp2 b o e).2) ps vs hp rv;refine kat_kind (T := .type "int") k (by omega) (fun v hv => ?_) (by decide) hQ;obtain ⟨a, t, rfl⟩ := hi v hv;exact .now
  case cm =>
    have get : ∀ m, m < ps.length → ∃ (t u : Tok), vs.getD m Value.none = .ref (ps.getD m pq0).1 ∧ IsTup h' (ps.getD m pq0).1 #[.int (ps.getD m pq0).2.1 t, .int (ps.getD m pq0).2.2 u] := fun m hm => by
      have g : (ps.map fun p => V.ref p.1)[m]? = some (V.ref ps[m].1) := by rw [List.getElem?_map, List.getElem?_eq_getElem hm]; rfl
      have e0 : ps.getD m pq0 = ps[m] := by rw [List.getD_eq_getElem?_getD, List.getElem?_eq_getElem hm]; rfl
      obtain ⟨w, ew, rw'⟩ := rv.get g;cases rw';obtain ⟨its, r', pl, _⟩ := I.tuple (SqT.of (hp _ (List.getElem_mem hm)));obtain ⟨u, w', rfl, ⟨t, rfl⟩, ⟨t', rfl⟩⟩ := vals2 r';obtain ⟨o, ho, hcl, n, hd⟩ := pl;refine ⟨t, t', ?_, ?_⟩
      · rw [List.getD_eq_getElem?_getD, ew, e0]; rfl
      · rw [e0];exact ⟨o, kp _ _ (kp2 _ _ ho).1 (kp2 _ _ ho).2, hcl, n, hd⟩
    obtain ⟨t, u, e1, t1⟩ := get i (by omega);obtain ⟨t', u', e2, t2⟩ := get j (by omega);rw [e1, e2];rw [rk (by omega) (by omega), hlt] at hC;exact za1 t1 t2 hC
  case fin =>
    refine wpAny_pure ⟨_, rfl, ?_⟩;obtain ⟨e, he⟩ := sortedHeap_at (out := (is.map fun i => vs.getD i Value.none).toArray) hoL;rw [hlen] at pm;have pw' : is.Pairwise (fun i j => z0S (ps.getD j pq0).2 (ps.getD i pq0).2 = false) := by
      refine (List.pairwise_iff_getElem.mpr fun a b ha hb hab => ?_);have h0 := List.pairwise_iff_getElem.mp pw a b ha hb hab;have ma : is[a] < ps.length := List.mem_range.mp (pm.mem_iff.mp (List.getElem_mem ha));have mb : is[b] < ps.length := List.mem_range.mp (pm.mem_iff.mp (List.getElem_mem hb));have := rk mb ma;have e3 : lt is[b] is[a] = z0S (ps.getD is[b] pq0).2 (ps.getD is[a] pq0).2 := by rw [hlt]
      rw [← e3, ← this];refine decide_eq_false ?_;unfold Rk at h0;omega
    refine ⟨.ref h1.objs.size, upd H h1.objs.size (.lst (is.map fun i => V.ref (ps.getD i pq0).1)), ?_, rfl, q _ is I1.fresh pm pw'⟩;refine I1.laid (a := h1.objs.size) (t' := s.toks) (fun b o e => ?_) (Nat.le_refl _) ⟨?_, is.map fun i => vs.getD i Value.none, e, ?_, ?_⟩
    · have hb := Heap.lt_size e;rw [sortedHeap_old (Nat.ne_of_lt hb) (by rw [Heap.size_push]; exact Nat.lt_succ_of_lt hb)];exact Heap.get?_push_of_some _ e
    · rw [List.length_map, pm.length_eq, List.length_range];exact zt (by omega)
    · have go : ∀ js : List Nat, (∀ j ∈ js, j < ps.length) → jb (js.map fun i => V.ref (ps.getD i pq0).1) (js.map fun i => vs.getD i Value.none) := fun js => by
        induction js with
        | nil => intro _; exact .nil
        | cons j js ih =>
          intro hj;rw [List.map_cons, List.map_cons];refine .cons ?_ (ih fun m hm => hj m (List.mem_cons_of_mem _ hm));have hm := hj j List.mem_cons_self;have g : (ps.map fun p => V.ref p.1)[j]? = some (V.ref ps[j].1) := by rw [List.getElem?_map, List.getElem?_eq_getElem hm]; rfl
          obtain ⟨w, ew, rw'⟩ := rv.get g;rw [List.getD_eq_getElem?_getD, List.getElem?_eq_getElem hm, List.getD_eq_getElem?_getD, ew];exact rw'
      exact go is fun j hj => List.mem_range.mp (pm.mem_iff.mp hj)
    · exact he
end
end L2
namespace L2
open PySem
@[elab_as_elim] theorem zc {motive : Hp → Prop} {H : Hp} {p : Addr} {o : HO} (K : Hp) (e : K = upd H p o) (hp : H p = none) (h : ∀ H', zM H H' → H' p = some o → motive H') : motive K := by
  subst e;exact h _ (jB hp o) zU
end L2

namespace L2
open PySem PySem.Spec PyProof.Rows
section
variable {X : Cx} {pins : List (Addr × Obj)} {σ : St} {H : Hp} {s : Shared} {a : Addr} {A : Around} {E : Value → Shared → Prop}
end
section
variable {X : Cx} {o e f : Expr} {td ty tx : TE} {apos cpos : Pos}
end
section
variable {X : Cx} {tg : Expr}
end
end L2
namespace L2
open PySem PySem.Spec PyProof.Rows
section
variable {X : Cx}
def zal (K : PySem.W.Frag) : R2 := fun x y H Q => ∃ a b xs, x = .ref a ∧ y = .ref b ∧ SqL K H a xs ∧ SqL K H b [] ∧ Q (.bl (!xs.isEmpty)) H
theorem z8t (hu1 : X.A.units + 1 < cLine) : OpR X (compareOp .NotEq) (zal X.K) := by
  intro pins s σ H x y v u Q I rx ry h;have hu : X.A.units < cLine := by omega
  obtain ⟨a, b, xs, rfl, rfl, ha, hb, q⟩ := h;cases rx;cases ry;obtain ⟨its, r, pl, hz⟩ := I.list ha;obtain ⟨its2, r2, pl2, _⟩ := I.list hb;have e2 : its2 = [] := r2.zero;subst e2;cases r with
  | nil => exact SeqAt.RcNeAt.lists (e := fun _ => true) pl.isList pl2.isList rfl hu (fun j h1 _ => absurd h1 (by simp)) _ _ _ _ ⟨.bl false, H, I, by simp [RelV], q⟩
  | cons r1 r2 => exact SeqAt.RcNeAt.lists_lengths pl.isList pl2.isList (by simp) hu _ _ _ _ ⟨.bl true, H, I, rfl, q⟩
end
end L2

namespace L2
open PySem PySem.Spec PyProof.Rows
section
variable {P : Program} {w : World} {K : PySem.W.Frag} {mg : Str → Option Value} {base : Heap}
end
section
variable {X : Cx} {pins : List (Addr × Obj)} {σ : St} {H : Hp} {s : Shared}
end
section
variable {X : Cx} {pins : List (Addr × Obj)} {σ : St} {H : Hp} {s : Shared} {A : Around} {E : Value → Shared → Prop}
end
section
variable {X : Cx} {pins : List (Addr × Obj)} {σ : St} {H : Hp} {s : Shared} {A : Around} {scope : Scope} {x : Str} {fr : List Str} {ix : List Nat}
end
section
variable {X : Cx} {pins : List (Addr × Obj)} {σ : St} {H : Hp} {s : Shared}
end
section
variable {X : Cx} {scope : Scope} {x : Str} {fr : List Str} {ix : List Nat} {e body : Expr} {te tb : TE} {params : Arguments} {lp kp p pos : Pos} {T c : Addr} {k : Nat}
end
end L2
namespace L2
open PySem PySem.Spec PyProof.Rows
end L2

namespace L2
open PySem PySem.Spec PyProof.Rows
section
variable {prog : Program} {w : World} {A : Around} {E : Value → Shared → Prop} {s : Shared} {r : Addr}
end
section
variable {X : Cx} {e : Expr} {te : TE} {p p' pos pos' : Pos}
end
end L2

namespace Qs
open PySem L2 Cn Rw
inductive Qn where
  | table (n : Str) | pick (c : Cond) (q : Qn) | cols (ns : List Str) (q : Qn) | pair (q r : Qn) | join (a b : Str) (q r : Qn)
  | both (q r : Qn) | first (n : Int) (q : Qn) | group (a b n s : Str) (q : Qn) | sort (a : Str) (q : Qn)
def QAt (H : Hp) : Qn → V → Prop
  | .table n, v => ∃ p, v = .ref p ∧ H p = some (.tup [.str "table", .str n])
  | .pick c q, v => ∃ p x y, v = .ref p ∧ H p = some (.tup [.str "pick", x, y]) ∧ jP H c x ∧ QAt H q y
  | .cols ns q, v => ∃ p x y, v = .ref p ∧ H p = some (.tup [.str "cols", .ref x, y]) ∧ H x = some (.tup (ns.map V.str)) ∧ QAt H q y
  | .pair q r, v => ∃ p x y, v = .ref p ∧ H p = some (.tup [.str "pair", x, y]) ∧ QAt H q x ∧ QAt H r y
  | .join a b q r, v => ∃ p x y, v = .ref p ∧ H p = some (.tup [.str "join", .str a, .str b, x, y]) ∧ QAt H q x ∧ QAt H r y
  | .both q r, v => ∃ p x y, v = .ref p ∧ H p = some (.tup [.str "both", x, y]) ∧ QAt H q x ∧ QAt H r y
  | .first n q, v => ∃ p y, v = .ref p ∧ H p = some (.tup [.str "first", .int n, y]) ∧ QAt H q y
  | .group a b n s q, v => ∃ p y, v = .ref p ∧ H p = some (.tup [.str "group", .str a, .str b, .str n, .str s, y]) ∧ QAt H q y
  | .sort a q, v => ∃ p y, v = .ref p ∧ H p = some (.tup [.str "sort", .str a, y]) ∧ QAt H q y
theorem QAt.mono {H H' : Hp} (t : ∀ b xs, H b = some (.tup xs) → H' b = some (.tup xs)) : ∀ {q : Qn} {v : V}, QAt H q v → QAt H' q v
  | .table _, _, h => by
    obtain ⟨p, rfl, h⟩ := h;exact ⟨p, rfl, t _ _ h⟩
  | .pick _ _, _, h => by
    obtain ⟨p, x, y, rfl, h, h1, h2⟩ := h;exact ⟨p, x, y, rfl, t _ _ h, h1.mono t, h2.mono t⟩
  | .cols _ _, _, h => by
    obtain ⟨p, x, y, rfl, h, h1, h2⟩ := h;exact ⟨p, x, y, rfl, t _ _ h, t _ _ h1, h2.mono t⟩
  | .pair _ _, _, h => by
    obtain ⟨p, x, y, rfl, h, h1, h2⟩ := h;exact ⟨p, x, y, rfl, t _ _ h, h1.mono t, h2.mono t⟩
  | .join _ _ _ _, _, h => by
    obtain ⟨p, x, y, rfl, h, h1, h2⟩ := h;exact ⟨p, x, y, rfl, t _ _ h, h1.mono t, h2.mono t⟩
  | .both _ _, _, h => by
    obtain ⟨p, x, y, rfl, h, h1, h2⟩ := h;exact ⟨p, x, y, rfl, t _ _ h, h1.mono t, h2.mono t⟩
  | .first _ _, _, h => by
    obtain ⟨p, y, rfl, h, h2⟩ := h;exact ⟨p, y, rfl, t _ _ h, h2.mono t⟩
  | .group _ _ _ _ _, _, h => by
    obtain ⟨p, y, rfl, h, h2⟩ := h;exact ⟨p, y, rfl, t _ _ h, h2.mono t⟩
  | .sort _ _, _, h => by
    obtain ⟨p, y, rfl, h, h2⟩ := h;exact ⟨p, y, rfl, t _ _ h, h2.mono t⟩
theorem QAt.same {H H' : Hp} {q : Qn} {v : V} (e : zM H H') (h : QAt H q v) : QAt H' q v := h.mono fun b xs z => e b _ z
def Side.txt : Side → Str
  | .nm s => s
  | .nu i => toString i
def ends (a b : Side) : Str := Side.txt a ++ " " ++ Side.txt b
def jH : Cond → Str
  | .less a b => "(" ++ "less" ++ " " ++ ends a b ++ ")"
  | .same a b => "(" ++ "same" ++ " " ++ ends a b ++ ")"
  | .no c => "(" ++ "not" ++ " " ++ jH c ++ ")"
  | .an c d => "(" ++ "and" ++ " " ++ (jH c ++ " " ++ jH d) ++ ")"
  | .or c d => "(" ++ "or" ++ " " ++ (jH c ++ " " ++ jH d) ++ ")"
def zz : Qn → Str
  | .table n => n
  | .pick c q => "(pick " ++ jH c ++ " " ++ zz q ++ ")"
  | .cols ns q => "(cols " ++ Str.join " " ns ++ " " ++ zz q ++ ")"
  | .pair q r => "(pair " ++ zz q ++ " " ++ zz r ++ ")"
  | .join a b q r => "(join " ++ a ++ " " ++ b ++ " " ++ zz q ++ " " ++ zz r ++ ")"
  | .both q r => "(both " ++ zz q ++ " " ++ zz r ++ ")"
  | .first n q => "(first " ++ (toString n : Str) ++ " " ++ zz q ++ ")"
  | .group a b n s q => "(group " ++ (a ++ " " ++ b ++ " " ++ n ++ " " ++ s) ++ " " ++ zz q ++ ")"
  | .sort a q => "(sort " ++ a ++ " " ++ zz q ++ ")"
def leK (k : Nat → Int) (i j : Nat) : Bool := decide (k i < k j ∨ (k i = k j ∧ i ≤ j))
def z2f (k : Nat → Int) (n : Nat) : List Nat := (List.range n).mergeSort (leK k)
theorem z0X (k : Nat → Int) (n : Nat) : (z2f k n).Perm (List.range n) := List.mergeSort_perm _ _
theorem zb5 (k : Nat → Int) (n : Nat) : (z2f k n).Pairwise fun i j => leK k i j = true :=
  List.pairwise_mergeSort (fun a b c h1 h2 => by
    have h1 := of_decide_eq_true h1;have h2 := of_decide_eq_true h2;exact decide_eq_true (by omega)) (fun a b => by
    unfold leK;rw [Bool.or_eq_true, decide_eq_true_eq, decide_eq_true_eq];omega) _
theorem z5l {k : Nat → Int} {n : Nat} {is : List Nat} (hp : is.Perm (List.range n)) (hw : is.Pairwise fun i j => leK k i j = true) : is = z2f k n := by
  refine List.Perm.eq_of_pairwise (le := fun i j => leK k i j = true) (fun a b _ _ h1 h2 => ?_) hw (zb5 k n) (hp.trans (z0X k n).symm);have h1 := of_decide_eq_true h1;have h2 := of_decide_eq_true h2;omega
theorem z6k (k : Nat → Int) (n : Nat) : (z2f k n).length = n := by rw [(z0X k n).length_eq, List.length_range]
def z7d (rows : List (List Int)) (s : Nat) (i : Nat) : Int := (rows.getD i []).getD s 0
def z2E (s : Nat) (rows : List (List Int)) : List (List Int) := (z2f (z7d rows s) rows.length).map fun i => rows.getD i []
def z0k (s : Nat) (rows : List (List Int)) : List Int := rows.foldl (fun acc r => if r.getD s 0 ∈ acc then acc else acc ++ [r.getD s 0]) []
def z2X (s p : Nat) (rows : List (List Int)) (k : Int) : List Int := [k, (((rows.filter fun r => decide (r.getD s 0 = k)).length : Nat) : Int), ((rows.filter fun r => decide (r.getD s 0 = k)).map fun r => r.getD p 0).sum]
def z8U (s p : Nat) (rows : List (List Int)) : List (List Int) := (z0k s rows).map (z2X s p rows)
def pairs (xs ys : List (List Int)) : List (List Int) := xs.flatMap fun x => ys.map fun y => x ++ y
section
variable (th : Str → List Str) (tr : Str → List (List Int))
def zo : Qn → List Str
  | .table n => th n
  | .pick _ q => zo q
  | .cols ns _ => ns
  | .pair q r => zo q ++ zo r
  | .join _ _ q r => zo q ++ zo r
  | .both q _ => zo q
  | .first _ q => zo q
  | .group a _ n s _ => [a, n, s]
  | .sort _ q => zo q
def rowsOf : Qn → List (List Int)
  | .table n => tr n
  | .pick c q => (rowsOf q).filter fun r => ev (zo th q) r c
  | .cols ns q => (rowsOf q).map fun r => ns.map fun n => r.getD ((zo th q).idxOf n) 0
  | .pair q r => pairs (rowsOf q) (rowsOf r)
  | .join a b q r => (pairs (rowsOf q) (rowsOf r)).filter fun z => decide (z.getD ((zo th q ++ zo th r).idxOf a) 0 = z.getD ((zo th q ++ zo th r).idxOf b) 0)
  | .both q r => rowsOf q ++ rowsOf r
  | .first n q => (rowsOf q).take n.toNat
  | .group a b _ _ q => z8U ((zo th q).idxOf a) ((zo th q).idxOf b) (rowsOf q)
  | .sort a q => z2E ((zo th q).idxOf a) (rowsOf q)
end
def letters : List Str := ["a", "b", "f", "g", "h", "i", "j", "k", "l", "o", "p", "q"]
def z1I : List Str := ["abcabcabcd", "abcabcabce"]
def signs : List Str := ["a", "b", "c", "d", "e", "f", "g", "h", "i", "j", "k", "l", "m", "n", "o", "p", "q", "r", "s", "t", "u", "v", "w", "x", "y", "z"]
def z0L (k used : Nat) : List Str := letters ++ (if 2 ≤ used then z1I else []) ++ (if 3 ≤ used then (["e"] : List Str) else []) ++ ((signs.take k).map fun s => (("n" : Str) ++ s : Str)) ++ ((signs.take k).map fun s => (("s" : Str) ++ s : Str))
def tabs : List Str := ["t", "tuvtuvtuvw", "tuvtuvtuvx", "tuvz"]
def nums : List Int := [0, 1, -1, 2, 10 ^ 30, 3]
def kG : List Int := [9, 1, 5, 3, 12, 7, 0, 10 ^ 9, 4, 2, 8]
def Side.small (hs : List Str) : Side → Prop
  | .nm s => s ∈ hs
  | .nu i => i ∈ nums
def jD (hs : List Str) : Cond → Prop
  | .less a b => Side.small hs a ∧ Side.small hs b
  | .same a b => Side.small hs a ∧ Side.small hs b
  | .no c => jD hs c
  | .an c d => jD hs c ∧ jD hs d
  | .or c d => jD hs c ∧ jD hs d
theorem jD.ok {hs : List Str} : ∀ {c : Cond}, jD hs c → c.ok hs
  | .less a b, h => by
    refine ⟨?_, ?_⟩
    · cases a with
      | nm s => exact h.1
      | nu i => trivial
    · cases b with
      | nm s => exact h.2
      | nu i => trivial
  | .same a b, h => by
    refine ⟨?_, ?_⟩
    · cases a with
      | nm s => exact h.1
      | nu i => trivial
    · cases b with
      | nm s => exact h.2
      | nu i => trivial
  | .no c, h => jD.ok (c := c) h
  | .an c d, h => ⟨jD.ok h.1, jD.ok h.2⟩
  | .or c d, h => ⟨jD.ok h.1, jD.ok h.2⟩
def okQ (th : Str → List Str) : Qn → Prop
  | .table n => n ∈ tabs
  | .pick c q => jD (zo th q) c ∧ c.size ≤ 6 ∧ okQ th q
  | .cols ns q => ns ≠ [] ∧ ns.Nodup ∧ (∀ n ∈ ns, n ∈ zo th q) ∧ okQ th q
  | .pair q r => (∀ n ∈ zo th q, n ∉ zo th r) ∧ okQ th q ∧ okQ th r
  | .join a b q r => a ∈ zo th q ∧ b ∈ zo th r ∧ (∀ n ∈ zo th q, n ∉ zo th r) ∧ okQ th q ∧ okQ th r
  | .both q r => zo th q = zo th r ∧ okQ th q ∧ okQ th r
  | .first n q => n ∈ kG ∧ okQ th q
  | .group a b n s q => a ∈ zo th q ∧ b ∈ zo th q ∧ (∃ g ∈ signs, n = ("n" : Str) ++ g ∧ s = ("s" : Str) ++ g) ∧ a ≠ n ∧ a ≠ s ∧ okQ th q
  | .sort a q => a ∈ zo th q ∧ okQ th q
def depth : Qn → Nat
  | .table _ => 1
  | .pick _ q => depth q + 1
  | .cols _ q => depth q + 1
  | .pair q r => max (depth q) (depth r) + 1
  | .join _ _ q r => max (depth q) (depth r) + 1
  | .both q r => max (depth q) (depth r) + 1
  | .first _ q => depth q + 1
  | .group _ _ _ _ q => depth q + 1
  | .sort _ q => depth q + 1
structure TabOk (th : Str → List Str) (tr : Str → List (List Int)) : Prop where
  t : ∃ m, 2 ≤ m ∧ m ≤ 12 ∧ th "t" = letters.take m
  w : th "tuvtuvtuvw" = z1I
  x : th "tuvtuvtuvx" = (["e"] : List Str)
  z : th "tuvz" = th "t"
  rl : ∀ n ∈ tabs, ∀ r ∈ tr n, r.length = (th n).length
  ct : (tr "t").length ≤ 60
  cw : (tr "tuvtuvtuvw").length ≤ 10
  cx : (tr "tuvtuvtuvx").length ≤ 10
  cz : (tr "tuvz").length = 3
theorem z6g : letters.Nodup := by decide +kernel
theorem zbL : ∀ g ∈ signs, (("n" : Str) ++ g : Str) ≠ (("s" : Str) ++ g : Str) := by decide +kernel
section
variable {th : Str → List Str} {tr : Str → List (List Int)}
theorem TabOk.hd (T : TabOk th tr) : ∀ n ∈ tabs, th n ≠ [] ∧ (th n).Nodup := by
  obtain ⟨m, m1, m2, e⟩ := T.t;have ht : th "t" ≠ [] ∧ (th "t").Nodup := by
    rw [e];refine ⟨fun z => ?_, z6g.sublist (List.take_sublist _ _)⟩;have := congrArg List.length z;rw [List.length_take] at this;simp [letters] at this;omega
  intro n hn;simp only [tabs, List.mem_cons, List.not_mem_nil, or_false] at hn;rcases hn with rfl | rfl | rfl | rfl
  · exact ht
  · rw [T.w]; exact ⟨by decide +kernel, by decide +kernel⟩
  · rw [T.x]; exact ⟨by decide +kernel, by decide +kernel⟩
  · rw [T.z]; exact ht
theorem jU (T : TabOk th tr) : ∀ {q : Qn}, okQ th q → zo th q ≠ [] ∧ (zo th q).Nodup
  | .table n, h => T.hd n h
  | .pick _ q, h => jU T (q := q) h.2.2
  | .cols ns q, h => ⟨h.1, h.2.1⟩
  | .pair q r, h => by
    have h1 := jU T (q := q) h.2.1;have h2 := jU T (q := r) h.2.2;refine ⟨by show _ ++ _ ≠ _; simp [h1.1], List.nodup_append.mpr ⟨h1.2, h2.2, fun a ha b hb e => h.1 a ha (e ▸ hb)⟩⟩
  | .join a b q r, h => by
    have h1 := jU T (q := q) h.2.2.2.1;have h2 := jU T (q := r) h.2.2.2.2;refine ⟨by show _ ++ _ ≠ _; simp [h1.1], List.nodup_append.mpr ⟨h1.2, h2.2, fun a ha b hb e => h.2.2.1 a ha (e ▸ hb)⟩⟩
  | .both q r, h => jU T (q := q) h.2.1
  | .first _ q, h => jU T (q := q) h.2
  | .group a b n s q, h => by
    obtain ⟨_, _, ⟨g, hg, rfl, rfl⟩, h1, h2, _⟩ := h;refine ⟨by show [_, _, _] ≠ []; simp, ?_⟩
    show List.Nodup [a, _, _]
    simp [h1, h2, zbL g hg]
  | .sort _ q, h => jU T (q := q) h.2
theorem z45 {xs ys : List (List Int)} {z : List Int} (h : z ∈ pairs xs ys) : ∃ x ∈ xs, ∃ y ∈ ys, z = x ++ y := by
  obtain ⟨x, hx, h⟩ := List.mem_flatMap.mp h;obtain ⟨y, hy, e⟩ := List.mem_map.mp h;exact ⟨x, hx, y, hy, e.symm⟩
theorem z7N {s : Nat} {rows : List (List Int)} {r : List Int} (h : r ∈ z2E s rows) : r ∈ rows := by
  obtain ⟨i, hi, e⟩ := List.mem_map.mp h;have hl := List.mem_range.mp ((z0X _ _).mem_iff.mp hi);rw [← e, List.getD_eq_getElem?_getD, List.getElem?_eq_getElem hl];exact List.getElem_mem hl
theorem jO (T : TabOk th tr) : ∀ {q : Qn}, okQ th q → ∀ r ∈ rowsOf th tr q, r.length = (zo th q).length
  | .table n, h => fun r m => T.rl n h r m
  | .pick c q, h => fun r m => jO T (q := q) h.2.2 r (List.mem_filter.mp m).1
  | .cols ns q, h => fun r m => by
    obtain ⟨x, _, rfl⟩ := List.mem_map.mp m;rw [List.length_map]; rfl
  | .pair q s, h => fun r m => by
    obtain ⟨x, hx, y, hy, rfl⟩ := z45 m
    show _ = (zo th q ++ zo th s).length
    rw [List.length_append, List.length_append, jO T (q := q) h.2.1 x hx, jO T (q := s) h.2.2 y hy]
  | .join a b q s, h => fun r m => by
    obtain ⟨x, hx, y, hy, rfl⟩ := z45 (List.mem_filter.mp m).1
    show _ = (zo th q ++ zo th s).length
    rw [List.length_append, List.length_append, jO T (q := q) h.2.2.2.1 x hx, jO T (q := s) h.2.2.2.2 y hy]
  | .both q s, h => fun r m => by
    rcases List.mem_append.mp m with m | m
    · exact jO T (q := q) h.2.1 r m
    · have := jO T (q := s) h.2.2 r m;rw [← h.1] at this;exact this
  | .first n q, h => fun r m => jO T (q := q) h.2 r (List.mem_of_mem_take m)
  | .group a b n s q, h => fun r m => by
    obtain ⟨x, _, rfl⟩ := List.mem_map.mp m
    rfl
  | .sort a q, h => fun r m => jO T (q := q) h.2 r (z7N m)
end
end Qs
namespace Qs
open PySem L2 Cn Rw
theorem z5N : ∀ s ∈ letters, s.length ≤ 10 := by decide +kernel
theorem zbE : ∀ s ∈ z1I, s.length ≤ 10 := by decide +kernel
theorem zbd : ∀ s ∈ (["e"] : List Str), s.length ≤ 10 := by decide +kernel
theorem z28 : ∀ g ∈ signs, (("n" : Str) ++ g : Str).length ≤ 10 ∧ (("s" : Str) ++ g : Str).length ≤ 10 ∧ g.length = 1 := by decide +kernel
section
variable {th : Str → List Str} {tr : Str → List (List Int)}
theorem z4h (T : TabOk th tr) : ∀ n ∈ tabs, ∀ s ∈ th n, s.length ≤ 10 := by
  obtain ⟨m, m1, m2, e⟩ := T.t;have ht : ∀ s ∈ th "t", s.length ≤ 10 := by
    rw [e];exact fun s hs => z5N s (List.mem_of_mem_take hs)
  intro n hn;simp only [tabs, List.mem_cons, List.not_mem_nil, or_false] at hn;rcases hn with rfl | rfl | rfl | rfl
  · exact ht
  · rw [T.w]; exact zbE
  · rw [T.x]; exact zbd
  · rw [T.z]; exact ht
theorem ji (T : TabOk th tr) : ∀ {q : Qn}, okQ th q → ∀ s ∈ zo th q, s.length ≤ 10
  | .table n, h => z4h T n h
  | .pick _ q, h => ji T (q := q) h.2.2
  | .cols ns q, h => fun s hs => ji T (q := q) h.2.2.2 s (h.2.2.1 s hs)
  | .pair q r, h => fun s hs => by
    rcases List.mem_append.mp hs with hs | hs
    · exact ji T (q := q) h.2.1 s hs
    · exact ji T (q := r) h.2.2 s hs
  | .join a b q r, h => fun s hs => by
    rcases List.mem_append.mp hs with hs | hs
    · exact ji T (q := q) h.2.2.2.1 s hs
    · exact ji T (q := r) h.2.2.2.2 s hs
  | .both q r, h => ji T (q := q) h.2.1
  | .first _ q, h => ji T (q := q) h.2
  | .group a b n s q, h => fun x hx => by
    obtain ⟨ha, _, ⟨g, hg, rfl, rfl⟩, _, _, hq⟩ := h;have hx' : x ∈ [a, ("n" : Str) ++ g, ("s" : Str) ++ g] := hx;simp only [List.mem_cons, List.not_mem_nil, or_false] at hx';rcases hx' with rfl | rfl | rfl
    · exact ji T (q := q) hq _ ha
    · exact (z28 g hg).1
    · exact (z28 g hg).2.1
  | .sort _ q, h => ji T (q := q) h.2
end
def kh (th : Str → List Str) (tr : Str → List (List Int)) (H : Hp) (v : V) (q : Qn) : Prop := ∃ (p : Addr) (qv : V) (hp rp : Addr) (rs : List (Addr × List Int)), v = .ref p ∧ H p = some (.tup [qv, .str (zz q), .ref hp, .ref rp]) ∧ QAt H q qv ∧
  H hp = some (.lst ((zo th q).map V.str)) ∧ jg H rp rs ∧ rs.map (·.2) = rowsOf th tr q
theorem kh.same {th : Str → List Str} {tr : Str → List (List Int)} {H H' : Hp} {v : V} {q : Qn} (h : kh th tr H v q) (e : zM H H') : kh th tr H' v q := by
  obtain ⟨p, qv, hp, rp, rs, rfl, h1, h2, h3, h4, h5⟩ := h;exact ⟨p, qv, hp, rp, rs, rfl, e _ _ h1, h2.same e, e _ _ h3, h4.same e, h5⟩
end Qs

namespace L2
open PySem PySem.Spec PyProof.Rows
section
variable {X : Cx}
def z51 (f : Str → Str → Str) : V → List V → Hp → VK → Prop := fun x vs H Q => ∃ z y, x = .str z ∧ vs = [.str y] ∧ z.length ≤ sizeLine ∧ Q (.str (f z y)) H
theorem z5f : MtM X "str.strip" (z51 Txt.stripChars) := by
  intro pins s σ H x vs v us Q I rx rv h;obtain ⟨z, y, rfl, rfl, hz, q⟩ := h;obtain ⟨t, rfl⟩ := rx;obtain ⟨u, rfl, t', rfl⟩ := rv.one;exact SC.stripChars (fun _ _ => ⟨.str _, H, I.tok _, ⟨_, rfl⟩, q⟩) hz
theorem z7v : MtM X "str.lstrip" (z51 Txt.lstripChars) := by
  intro pins s σ H x vs v us Q I rx rv h;obtain ⟨z, y, rfl, rfl, hz, q⟩ := h;obtain ⟨t, rfl⟩ := rx;obtain ⟨u, rfl, t', rfl⟩ := rv.one;exact SC.lstripChars (fun _ _ => ⟨.str _, H, I.tok _, ⟨_, rfl⟩, q⟩) hz
theorem z7P : MtM X "str.rstrip" (z51 Txt.rstripChars) := by
  intro pins s σ H x vs v us Q I rx rv h;obtain ⟨z, y, rfl, rfl, hz, q⟩ := h;obtain ⟨t, rfl⟩ := rx;obtain ⟨u, rfl, t', rfl⟩ := rv.one;exact SC.rstripChars (fun _ _ => ⟨.str _, H, I.tok _, ⟨_, rfl⟩, q⟩) hz
def z9X : V → List V → Hp → VK → Prop := fun x vs H Q => ∃ z y, x = .str z ∧ vs = [.str y] ∧ Q (.bl (Txt.startswith z y)) H
theorem kS : MtM X "str.startswith" z9X := by
  intro pins s σ H x vs v us Q I rx rv h;obtain ⟨z, y, rfl, rfl, q⟩ := h;obtain ⟨t, rfl⟩ := rx;obtain ⟨u, rfl, t', rfl⟩ := rv.one;exact SC.startswith ⟨.bl _, H, I, rfl, q⟩
def z9J : V → List V → Hp → VK → Prop := fun x vs H Q => ∃ z y i r, x = .str z ∧ vs = [.str y] ∧ Builtin.Str.occurrences z y 0 z.length 1 = i :: r ∧ Q (.int ((i : Nat) : Int)) H
theorem z7x : MtM X "str.index" z9J := by
  intro pins s σ H x vs v us Q I rx rv h;obtain ⟨z, y, i, r, rfl, rfl, ho, q⟩ := h;obtain ⟨t, rfl⟩ := rx;obtain ⟨u, rfl, t', rfl⟩ := rv.one;exact SC.index ho ⟨.int _, H, I.tok _, ⟨_, rfl⟩, q⟩
theorem z7S (ss : List Str) : ∀ k, jb (ss.map V.str) (strsFrom k ss) := by
  induction ss with
  | nil => intro k; exact .nil
  | cons a r ih => intro k; exact .cons ⟨_, rfl⟩ (ih (k + 1))
def zaB : V → List V → Hp → VK → Prop := fun x vs H Q => ∃ z y, x = .str z ∧ vs = [.str y] ∧ y.length ≠ 0 ∧ z.length + 2 ≤ sizeLine ∧ ∀ l, H l = none → Q (.ref l) (upd H l (.lst ((Txt.split z y).map V.str)))
theorem z8H : MtM X "str.split" zaB := by
  intro pins s σ H x vs v us Q I rx rv h;obtain ⟨z, y, rfl, rfl, hy0, hz, q⟩ := h;obtain ⟨t, rfl⟩ := rx;obtain ⟨u, rfl, t', rfl⟩ := rv.one;have hy : (y.length == 0) = false := by simpa using hy0
  have fin : ∀ (ss : List Str) (us : List Value) (k : Nat), Txt.split z y = ss → jb (ss.map V.str) us → ss.length ≤ sizeLine → EP X pins σ Q (.ref s.heap.objs.size) { s with heap := s.heap.push { cls := .type "list", data := .seq us.toArray }, toks := k } := fun ss us k e hv hl => by
    subst e;exact ⟨.ref _, _, I.lnew (t' := k) hv (by rw [List.length_map]; exact hl), rfl, q _ I.fresh⟩
  have one : 1 ≤ sizeLine := by omega
  have hn := split_le z y;cases h1 : (decide (z.length < y.length) || decide (Builtin.Str.strKind z < Builtin.Str.strKind y))
  · cases hf : (Builtin.Str.occurrences z y 0 z.length (z.length + 1)).isEmpty
    · have e : Txt.split z y = Builtin.Str.partsBetween z (Builtin.Str.occurrences z y 0 z.length (z.length + 1)) y.length := (if_neg (ne_true_of_eq_false h1)).trans (if_neg (ne_true_of_eq_false hf));rw [e] at hn;refine call_meets F.slot_str_split (typeIs_str _ _ _) F.entry_str_split (F.args_str_split_2 _ _) (meets_str_split_sep z y t t' h1 hy hf (by omega) (by omega)) ?_;exact fin _ _ _ e (z7S _ _) (by omega)
    · refine call_meets F.slot_str_split (typeIs_str _ _ _) F.entry_str_split (F.args_str_split_2 _ _) (meets_str_split_not_found z y t t' h1 hy hf) ?_;exact fin [z] [Value.str z t] s.toks ((if_neg (ne_true_of_eq_false h1)).trans (if_pos hf)) (.cons ⟨_, rfl⟩ .nil) one
  · refine call_meets F.slot_str_split (typeIs_str _ _ _) F.entry_str_split (F.args_str_split_2 _ _) (meets_str_split_cannot_occur z y t t' h1) ?_;exact fin [z] [Value.str z t] s.toks (if_pos h1) (.cons ⟨_, rfl⟩ .nil) one
end
end L2

namespace L2
open PySem PySem.Spec PyProof.Rows
def Its (x : Str) : It := ⟨fun i _ => i < x.cps.size, fun i H v H' => H' = H ∧ ∃ c, x.cps[i]? = some c ∧ v = .str ⟨#[c]⟩, fun i _ => i = x.cps.size⟩
section
variable {X : Cx} {tg : Expr}
def zbZ (tl : TE) : TI := fun σ H R => tl σ H fun x H1 => ∃ z, x = .str z ∧ R (Its z) H1
theorem z5q {P : Program} {w : World} {K : PySem.W.Frag} {p : Pos} {n : Str} (x : Str) (t : Tok) (T : String) (it : Addr)
    (W : ∀ A' : Around, A'.handled = none → Walks P w A' it [it] [it] x.cps.size (SignAt x) (fun i h => h.IsStrIter it T x t i))
    (hself : ∀ (A : Around) (i : Nat) (s : Shared) (Q : Value → Shared → Prop) (E : Value → Shared → Prop), s.heap.IsStrIter it T x t i → Q (.ref it) s → wpAny (model P w) A (pyIter (.ref it)) Q E s) : Turn P w K (.Name n p) (Its x) [it] it (fun i h => h.IsStrIter it T x t i) where
  mem := by simp
  obj := fun i h st b hb => by
    have e : b = it := by simpa using hb
    subst e;obtain ⟨o, e, c, d⟩ := st;exact ⟨o, e, fun v z => by rw [d] at z; cases z⟩
  keep := fun i h h' st k => let ⟨o, ho, r⟩ := st; ⟨o, k it (by simp) o ho, r⟩
  item := by
    intro X hP hw hK hc i pins s σ H E I hf st hg;subst hP hw hK;obtain ⟨f0, f1, f2, f3, f4, f5⟩ := hf it (by simp);refine (W X.A (I.ok.hd hc)).item i s _ E hg st fun v h' tk hv st' hk => ?_
    obtain ⟨c, u, hcx, rfl⟩ := hv;have I1 : Inv X pins σ H { s with heap := h', toks := tk } := I.turned (t' := tk) (fun b o hb e => hk b o (by simpa using hb) e) f0 f1 f3 f4 f5;refine ⟨_, rfl, ?_⟩;unfold letOwnedTupleGo;exact wpAny_pure ⟨.str ⟨#[c]⟩, H, I1, ⟨_, rfl⟩, ⟨rfl, c, hcx, rfl⟩, st', fun b hb => (hf b hb).1⟩
  done := by
    intro X hP hw hK hc i pins s σ H E I hf st hg;subst hP hw hK;obtain ⟨f0, f1, f2, f3, f4, f5⟩ := hf it (by simp);cases (show i = x.cps.size from hg);exact (W X.A (I.ok.hd hc)).done s _ E st fun h' tk hk => ⟨rfl, I.turned (t' := tk) (fun b o hb e => hk b o (by simpa using hb) e) f0 f1 f3 f4 f5⟩
  self := fun A i s Q E st h => hself A i s Q E st h
theorem zaW {l : Expr} {tl : TE} {n : Str} {p : Pos} (hl : PE X l tl) : PI X (.Name n p) l (zbZ tl) := by
  intro pins s σ H R I h;refine thn (hl pins s σ H _ I h) fun v s1 ⟨x, H1, I1, r1, q1⟩ => ?_
  obtain ⟨z, e, q⟩ := q1;subst e;obtain ⟨t, rfl⟩ := r1;have fp : ∀ b ∈ [s1.heap.objs.size], z19 X pins H1 b := fun b hb => by
    have e : b = s1.heap.objs.size := by simpa using hb
    subst e;exact I1.fpOk (Nat.le_refl _) (I1.hok.fresh (Nat.le_refl _))
  cases ha : z.cps.all (· < 128)
  · exact wpAny_pyIter_wide ha ⟨s1.heap.objs.size, [s1.heap.objs.size], _, _, H1, rfl, I1.kept (t' := s1.toks) fun b o e => Heap.get?_push_of_some _ e,
      z5q z t "str_iterator" _ (fun A' hA => Walks.strWide hA _ z t) (fun _ _ _ _ _ st h => wpAny_pyIter_striter_wide st h), ⟨_, Heap.get?_push_size _ rfl, rfl, rfl⟩, fp, q⟩
  · exact wpAny_pyIter_ascii ha ⟨s1.heap.objs.size, [s1.heap.objs.size], _, _, H1, rfl, I1.kept (t' := s1.toks) fun b o e => Heap.get?_push_of_some _ e,
      z5q z t "str_ascii_iterator" _ (fun A' hA => Walks.strAscii hA _ z t) (fun _ _ _ _ _ st h => wpAny_pyIter_striter_ascii st h), ⟨_, Heap.get?_push_size _ rfl, rfl, rfl⟩, fp, q⟩
end
theorem z9S {z : Str} {g : TG} {tb : TS} {D : Ends} {σ : St} {H : Hp} (Pv : Nat → St → Hp → Prop) (h0 : Pv 0 σ H)
    (hs : ∀ (i c : Nat) σ H, z.cps[i]? = some c → Pv i σ H → g (.str ⟨#[c]⟩) σ H fun σ2 H2 => tb { D with nx := Pv (i + 1), ct := Pv (i + 1), bk := D.nx } σ2 H2) (hd : ∀ σ H, Pv z.cps.size σ H → D.nx σ H) :
    ∃ W : Nat → Nat → St → Hp → Prop, (∃ m, W 0 m σ H) ∧ ∀ i m σ H, W i m σ H →
      ((Its z).stop i H ∧ D.nx σ H) ∨ ((Its z).go i H ∧ ∃ N : St → Hp → Prop, (∀ σ' H', N σ' H' → ∃ m', m' < m ∧ W (i + 1) m' σ' H') ∧ ∀ x H', (Its z).yld i H x H' → g x σ H' fun σ2 H2 => tb { D with nx := N, ct := N, bk := D.nx } σ2 H2) := by
  refine ⟨fun i m σ H => m = z.cps.size - i ∧ i ≤ z.cps.size ∧ Pv i σ H, ⟨z.cps.size, by simp, Nat.zero_le _, h0⟩, ?_⟩;rintro i m σ H ⟨rfl, hi, p⟩;by_cases hlt : i < z.cps.size
  · refine .inr ⟨hlt, Pv (i + 1), fun σ' H' p' => ⟨z.cps.size - (i + 1), by omega, rfl, hlt, p'⟩, fun x H' y => ?_⟩;obtain ⟨e, c, hc, ex⟩ := y;subst e ex;exact hs i c σ _ hc p
  · have e : i = z.cps.size := by omega
    subst e;exact .inl ⟨rfl, hd σ H p⟩
theorem part_of {v : Value} {o : Option Int} (p : IsPart v o) : ∃ l : Option (Int × Tok), v = partValue l ∧ l.map (·.1) = o := by
  cases p with
  | none => exact ⟨none, rfl, rfl⟩
  | int i t => exact ⟨some (i, t), rfl, rfl⟩
section
variable {X : Cx}
def zci : V → Option Int → Option Int → Hp → VK → Prop := fun x lo hi H Q => ∃ z, x = .str z ∧ z.length ≤ sizeLine ∧ Q (.str (Txt.slice z lo hi)) H
theorem z3D : SlR X zci := by
  intro pins s σ H x v vl vu lo hi sl Q I rx hs pl pu h;obtain ⟨z, rfl, hz, q⟩ := h;obtain ⟨t, rfl⟩ := rx;obtain ⟨l, rfl, hl⟩ := part_of pl;obtain ⟨u, rfl, hu⟩ := part_of pu;subst hl hu;refine ⟨"str", _, F.slot_str_getitem.lookup, typeIs_str s z t, ?_⟩;refine wpAny_getItem_str_slice (l := l) (u := u) (st := none) hs rfl ?_;exact post_val_or_str ⟨Nat.le_trans (Txt.slice_le z _ _) hz, fun t' k => ⟨.str _, H, I.tok _, ⟨_, rfl⟩, q⟩⟩
def z5P (K : PySem.W.Frag) (a : Addr) (D : List (Str × List Str)) : Prop :=
  KTD.tabLook (KTD.datLooks fun b => K.lookup b) (fun b => K.lookup b) a (D.map fun p => (p.1, KTD.Dat.tup (p.2.map PyData.str))) = true
def tabAt (D : List (Str × List Str)) (k : Str) : Option (List Str) := D.lookup k
def z9r (K : PySem.W.Frag) (h : Heap) : Heap := PySem.W.hideAll h ((List.range h.objs.size).filter fun a => (K.lookup a).isNone)
theorem z5k {K : PySem.W.Frag} {h : Heap} (i : K.In h) {b : Addr} {o : Obj} (e : K.lookup b = some o) : (z9r K h).get? b = some o :=
  PySem.W.hideAll_get _ (i b o e) fun hm => by
    have q : (K.lookup b).isNone = true := (List.mem_filter.mp hm).2;rw [e] at q;cases q
theorem za0 {K : PySem.W.Frag} {h : Heap} (i : K.In h) {b : Addr} {o : Obj} (e : (z9r K h).get? b = some o) : K.lookup b = some o := by
  have e' : h.get? b = some o := PySem.W.of_hideAll _ e;cases q : K.lookup b with
  | none =>
    have hm : b ∈ (List.range h.objs.size).filter fun a => (K.lookup a).isNone := List.mem_filter.mpr ⟨List.mem_range.mpr (Heap.lt_size e'), by rw [q]; rfl⟩
    have z : (z9r K h).get? b = none := PySem.W.hideAll_none _ hm;rw [z] at e;cases e
  | some u =>
    have := i b u q;rw [e'] at this;exact this.symm
theorem z7k {K : PySem.W.Frag} {h : Heap} {a : Addr} {D : List (Str × List Str)} (i : K.In h) (T : z5P K a D) : KTD.Here (z9r K h) h a (D.map fun p => (p.1, KTD.Dat.tup (p.2.map PyData.str))) :=
  ⟨KTD.tab_of_look (KTD.dat_of_looks fun b o e => z5k i e) (fun b o e => z5k i e) T, fun b o e => PySem.W.of_hideAll _ e⟩
theorem z3O (k : Str) : ∀ D : List (Str × List Str), KTD.datumAt k (D.map fun p => (p.1, KTD.Dat.tup (p.2.map PyData.str))) = (tabAt D k).map fun xs => KTD.Dat.tup (xs.map PyData.str)
  | [] => rfl
  | (x, xs) :: D => by
    have ih := z3O k D;unfold tabAt at ih ⊢;simp only [List.map_cons, KTD.datumAt, List.lookup_cons];by_cases h : k = x
    · subst h;simp
    · rw [show (k == x) = false from by simpa using h];simp [h, ih]
theorem z3K : ∀ {vs : List Value} {xs : List Str}, KTD.Flats vs (xs.map PyData.str) → jb (xs.map V.str) vs
  | [], [], _ => .nil
  | v :: vs, x :: xs, h => by
    cases h with
    | cons h1 h2 =>
      obtain ⟨t, rfl⟩ := PyProof.V.Flat.str_inv h1;exact .cons ⟨t, rfl⟩ (z3K h2)
  | [], _ :: _, h => by cases h
  | _ :: _, [], h => by cases h
def zaM (K : PySem.W.Frag) : R2 := fun x y H Q => ∃ k a D, x = .str k ∧ y = .ref a ∧ z5P K a D ∧ Q (.bl (tabAt D k).isSome) H
theorem z2n : OpR X (compareOp .In) (zaM X.K) := by
  intro pins s σ H x y v u Q I rx ry h;obtain ⟨k, a, D, rfl, rfl, T, q⟩ := h;obtain ⟨t, rfl⟩ := rx;cases ry;refine KTD.in_text (z7k I.kIn T) ⟨.bl _, H, I.tok _, rfl, ?_⟩;rw [← KTD.isSome_datumAt, z3O, Option.isSome_map];exact q
def zao (K : PySem.W.Frag) : R2 := fun x y H Q => ∃ a k D xs, x = .ref a ∧ y = .str k ∧ z5P K a D ∧ tabAt D k = some xs ∧ xs.length ≤ sizeLine ∧ ∀ b, SqT K H b (xs.map V.str) → Q (.ref b) H
theorem z8e : IxR X (zao X.K) := by
  intro value slice pins s σ H x y v u Q I rx ry h hs;obtain ⟨a, k, D, xs, rfl, rfl, T, hx, hz, q⟩ := h;cases rx;obtain ⟨t, rfl⟩ := ry;have T' := z7k I.kIn T;refine tail_any T'.typeIs slot_dict_getitem.lookup ?_ hs;unfold getItem
  try with_reducible refine wpAny_holding ?_
  refine wpAny_bind (wpAny_sequenceKey T'.typeIs (by decide) ?_);refine wpAny_bind (wpAny_callSpecial?_slot (name := Str.ofString "__getitem__") T'.typeIs slot_dict_getitem
    (wpAny_call_entry slot_dict_getitem T'.typeIs entry_dict_getitem ?_ (args_dict_getitem _ _)))
  show wpAny _ _ (dictGet a (.str k t) >>= _) _ _ s
  have hd : KTD.datumAt k (D.map fun p => (p.1, KTD.Dat.tup (p.2.map PyData.str))) = some (KTD.Dat.tup (xs.map PyData.str)) := by rw [z3O, hx]; rfl
  refine wpAny_bind (KTD.dictGet_text T' (fun d w ha hv => ?_) fun hn => ?_)
  · rw [hd] at ha;cases ha;obtain ⟨b, vs, rfl, ⟨o, ho, hc, n, hdat⟩, fl⟩ := hv;have r := z3K fl;have hl := r.length;rw [List.length_map] at hl;refine wpAny_pure ⟨_, rfl, wpAny_pure ⟨.ref b, H, I.tok _, rfl, q b (.inr ⟨o, vs.toArray, n, za0 I.kIn ho, hc, hdat, by rw [List.size_toArray]; omega, by simpa using r⟩)⟩⟩
  · rw [hd] at hn;cases hn
end
end L2

namespace L2
open PySem PySem.Spec PyProof.Rows
theorem z2x : fillsNumberSlot (.type "tuple") "mul" = pure false :=
  PySem.fillsNumberSlot_seq (id := "tuple.__mul__") (r := some (.builtin "tuple.__rmul__")) F.slot_tuple_mul.lookup (by decide +kernel) F.slot_tuple_rmul.lookup (by decide +kernel)
theorem z57 : seqRepeat? (.type "tuple") = pure (some (.builtin "tuple.__mul__")) := by
  unfold seqRepeat?;rw [PySem.seqSlot_of (T := "tuple") (name := "__mul__") (id := "tuple.__mul__") F.slot_tuple_mul.lookup (by decide +kernel), PySem.seqSlot_of (T := "tuple") (name := "__rmul__") (id := "tuple.__rmul__") F.slot_tuple_rmul.lookup (by decide +kernel)]
  rfl
theorem z3r (a : Int) (t : Tok) (l : Addr) (its : Array Value) :
    Meets (Builtin.«int.__rmul__» ⟨[.int a t, .ref l], []⟩) (fun _ R s => IsTup s.heap l its ∧ R (.ok (.ret Value.notImplemented)) s) :=
  .of_wp fun prog w A R s h => by
    obtain ⟨hp, g, d, tk, os⟩ := s;obtain ⟨⟨⟨cls, dd, dat, sl⟩, hl, hc, n, hd⟩, h⟩ := h;simp only at hc hd;subst hc hd;have hsub : isSubtype (.type "tuple") (.type "int") = pure false := by rw [isSubtype_type]; kernel_rfl
    wp_walk
    all_goals exact ⟨_, rfl, h⟩
theorem z6D (l : Addr) (items : Array Value) (n : Nat) (dd : Option Addr) (sl : Array (Option Value)) (u : Tok) :
    Meets (Builtin.«tuple.__mul__» ⟨[.ref l, .int 1 u], []⟩) (fun _ R s => s.heap.get? l = some { cls := .type "tuple", dict := dd, data := .seq items n, slots := sl } ∧ R (.ok (.ret (.ref l))) s) :=
  .of_wp fun prog w A R s h => by
    obtain ⟨hp, g, d, tk, os⟩ := s;obtain ⟨hl, h⟩ := h;have f1 := AutoSeq1.idx_int;have f2 := AutoSeq1.sub_tuple_tuple
    wp_walk
    exact ⟨_, rfl, h⟩
theorem z6c (l : Addr) (items : Array Value) (n : Nat) (dd : Option Addr) (sl : Array (Option Value)) (x : Int) (u : Tok) (h0 : items.isEmpty = false) (h1 : 2 ≤ x) (h2 : x < 2 ^ 40) (h3 : items.size * x.toNat ≤ sizeLine)
    (hsz : (List.foldl (fun x1 x2 => x1 ++ x2) #[] (List.replicate x.toNat items)).size ≤ sizeLine) :
    Meets (Builtin.«tuple.__mul__» ⟨[.ref l, .int x u], []⟩) (fun _ R s => s.heap.get? l = some { cls := .type "tuple", dict := dd, data := .seq items n, slots := sl } ∧
      R (.ok (.ret (.ref s.heap.objs.size))) { s with heap := s.heap.push { cls := .type "tuple", data := .seq (List.foldl (fun x1 x2 => x1 ++ x2) #[] (List.replicate x.toNat items)) } }) :=
  .of_wp fun prog w A R s h => by
    obtain ⟨hp, g, d, tk, os⟩ := s;obtain ⟨hl, h⟩ := h;have f1 := AutoSeq1.idx_int;have f2 := AutoSeq1.sub_tuple_tuple;have hmul : (items.size : Int) * x = ((items.size * x.toNat : Nat) : Int) := by
      rw [Int.natCast_mul, Int.toNat_of_nonneg (by omega)]
    have hs : sizeLine = 16777216 := sizeLine_eq
    wp_walk
    refine wpAny_ite_split (fun hab => absurd hab ?_) (fun _ => ?_)
    · simp only [Bool.or_eq_true, decide_eq_true_eq, not_or];omega
    wp_walk
    refine wpAny_ite_split (fun hab => absurd hab ?_) (fun _ => ?_)
    · rw [h0, Bool.false_or, beq_iff_eq];omega
    wp_walk
    refine wpAny_ite_split (fun hab => absurd hab ?_) (fun _ => ?_)
    · rw [h0, Bool.or_false, decide_eq_true_eq];omega
    refine wpAny_ite_split (fun hab => absurd hab ?_) (fun _ => ?_)
    · rw [hmul];omega
    refine wpAny_ite_split (fun hab => absurd hab ?_) (fun _ => ?_)
    · unfold Builtin.Tuple.tupleTooMany;rw [hmul, decide_eq_true_eq];omega
    wp_walk
    refine wpAny_ite_split (fun hab => absurd hsz (Nat.not_le.mpr hab)) (fun _ => ?_)
    wp_walk
    exact ⟨_, rfl, h⟩
section
variable {X : Cx}
def zbo (K : PySem.W.Frag) : R2 := fun x y H Q => ∃ a k xs, x = .ref a ∧ y = .int k ∧ SqT K H a xs ∧ xs ≠ [] ∧ 1 ≤ k ∧ xs.length * k.toNat ≤ sizeLine ∧ (k = 1 → Q (.ref a) H) ∧
  (k ≠ 1 → ∀ p, H p = none → Q (.ref p) (upd H p (.tup (List.replicate k.toNat xs).flatten)))
theorem z9D : OpR X (binaryOp .Mult) (zbo X.K) := by
  intro pins s σ H x y v u Q I rx ry h;obtain ⟨l, k, xs, rfl, rfl, hH, hne, h1, hz, q1, q2⟩ := h;cases rx;obtain ⟨t, rfl⟩ := ry;obtain ⟨its, r, pl, hsz⟩ := I.tuple hH;have hl := r.length;have hn : sizeLine = 16777216 := sizeLine_eq;have hi0 : its ≠ [] := fun e => hne (r.nil_iff.mp e)
  have hkz : k.toNat ≤ sizeLine := by
    have : 1 ≤ xs.length := List.length_pos_iff.mpr hne
    calc k.toNat = 1 * k.toNat := (Nat.one_mul _).symm
      _ ≤ xs.length * k.toNat := Nat.mul_le_mul_right _ this
      _ ≤ sizeLine := hz
  refine wpAny_binaryOp_repeat_ref (T := "tuple") (U := "int") (by decide) pl.typeIs (fun s' => typeIs_int s' k t) z2x F.fills_int_mul F.slot_int_rmul z57 F.slot_int_index.lookup
    (call_meets F.slot_int_rmul (typeIs_int s k t) F.entry_int_rmul (F.args_int_rmul_2 _ _) (z3r k t l its.toArray)
      ⟨pl, rfl, pl.typeIs, ?_⟩)
  obtain ⟨⟨cls, dd, data, sl⟩, ho, hc, n, hd⟩ := id pl;simp only at hc hd;subst hc hd;by_cases hk1 : k = 1
  · subst hk1;exact call_meets F.slot_tuple_mul pl.typeIs F.entry_tuple_mul (F.args_tuple_mul_2 _ _) (z6D l its.toArray n dd sl t) ⟨ho, ⟨.ref l, H, I, rfl, q1 rfl⟩⟩
  · have hf : List.foldl (fun x1 x2 => x1 ++ x2) #[] (List.replicate k.toNat its.toArray) = (List.replicate k.toNat its).flatten.toArray := by
      have := foldl_rep its k.toNat [];rw [List.nil_append] at this;exact this
    have hlr : (List.replicate k.toNat xs).flatten.length ≤ sizeLine := by rw [len_rep, Nat.mul_comm]; exact hz
    have hlv := (r.rep k.toNat).length;refine call_meets F.slot_tuple_mul pl.typeIs F.entry_tuple_mul (F.args_tuple_mul_2 _ _) (z6c l its.toArray n dd sl k t (by
      cases its with
      | nil => exact absurd rfl hi0
      | cons a b => rfl) (by omega) (by omega) (by rw [List.size_toArray, ← hl]; exact hz) (by rw [hf, List.size_toArray, ← hlv]; exact hlr)) ⟨ho, ?_⟩
    rw [hf];exact ⟨.ref _, _, I.laid (t' := s.toks) (o := .tup (List.replicate k.toNat xs).flatten) (fun b ob q => Heap.get?_push_of_some _ q) (Nat.le_refl _) ⟨hlr, _, r.rep k.toNat, IsTup.new _ _⟩, rfl, q2 hk1 _ (I.hok.fresh (Nat.le_refl _))⟩
end
end L2

namespace L2
open PySem PySem.Spec PyProof.Rows
open Builtin.SmallTypes (nextOf)
def z83 (prog : Program) (w : World) (it : Addr) (v : Value) (C N : Heap → Prop) : Prop := ∀ (A : Around) (s : Shared) (Q : Value → Shared → Prop) (E : Value → Shared → Prop), C s.heap →
  (∀ h', N h' → Heap.SameBut it s.heap h' → Q v { s with heap := h' }) → wpAny (model prog w) A (nextOf (.ref it)) Q E s
def z4M (prog : Program) (w : World) (it : Addr) (C : Heap → Prop) : Prop := ∀ (A : Around) (s : Shared) (Q : Value → Shared → Prop) (E : Value → Shared → Prop), A.handled = none → C s.heap →
  (∀ h' e, Heap.ExtBut it s.heap h' → (∃ o, h'.get? e = some o ∧ o.cls = .type "StopIteration") → E (.ref e) { s with heap := h' }) → wpAny (model prog w) A (nextOf (.ref it)) Q E s
def On (l : List Addr) (C : Heap → Prop) : Prop := ∀ h h' : Heap, (∀ c ∈ l, ∀ o, h.get? c = some o → h'.get? c = some o) → C h → C h'
section
variable {prog : Program} {w : World}
theorem z7I {it l : Addr} {i : Nat} {items : Array Value} {x : Value} (hx : items[i]? = some x) : z83 prog w it x (fun h => h.IsListIter it l i ∧ h.IsList l items) (fun h => h.IsListIter it l (i + 1)) :=
  fun A s Q E hc hQ => wpAny_nextOf_list_item hc.1 hc.2 hx fun h' a b => hQ h' a b
theorem draw_tuple {it t : Addr} {i : Nat} {items : Array Value} {x : Value} (hx : items[i]? = some x) : z83 prog w it x (fun h => h.IsTupleIter it t i ∧ h.IsTuple t items) (fun h => h.IsTupleIter it t (i + 1)) := by
  intro A s Q E hc hQ;obtain ⟨hit, ht⟩ := hc;obtain ⟨o, ho, hc, hd⟩ := id hit;obtain ⟨ol, hol, _, nl, hdl⟩ := ht;unfold nextOf;refine wpAny_bind (wpAny_callSpecial?_slot (name := Str.ofString "__next__") hit.typeIs F.slot_tuple_iterator_next (wpAny_call_entry F.slot_tuple_iterator_next hit.typeIs F.entry_tuple_iterator_next ?_ (F.args_tuple_iterator_next_1 _)))
  show wpAny _ _ (field (.ref it) 0 >>= _) _ _ s
  refine wpAny_bind (wpAny_field ho hd (x := .ref t) rfl ?_)
  show wpAny _ _ (if (Value.ref t == Value.none) = true then _ else _) _ _ s
  rw [if_neg (show ¬ ((Value.ref t == Value.none) = true) from Bool.false_ne_true)]
  show wpAny _ _ (field (.ref it) 1 >>= _) _ _ s
  refine wpAny_bind (wpAny_field ho hd (x := .int i 0) rfl ?_)
  show wpAny _ _ (seqItems? (.ref t) >>= _) _ _ s
  refine wpAny_bind (wpAny_seqItems hol hdl ?_);simp only [Int.toNat_natCast, hx];refine wpAny_bind (wpAny_setField ho hd (by simp) (wpAny_pure ⟨x, rfl, wpAny_pure (hQ _ ?_ (Heap.SameBut.update ..))⟩));exact ⟨_, Heap.get?_update_self _ ho (Obj.isFreed_of_fields (Obj.data_mapFields hd _)), (Obj.cls_mapFields ..).trans hc, by
    rw [Obj.data_mapFields hd]; simp [rawInt]⟩
theorem z7y {it t : Addr} {i : Nat} {items : Array Value} (hx : items[i]? = none) : z4M prog w it (fun h => h.IsTupleIter it t i ∧ h.IsTuple t items) := by
  intro A s Q E hh hc hE;obtain ⟨hit, ht⟩ := hc;obtain ⟨o, ho, hc, hd⟩ := id hit;obtain ⟨ol, hol, _, nl, hdl⟩ := ht;unfold nextOf;refine wpAny_bind (wpAny_callSpecial?_slot (name := Str.ofString "__next__") hit.typeIs F.slot_tuple_iterator_next (wpAny_call_entry F.slot_tuple_iterator_next hit.typeIs F.entry_tuple_iterator_next ?_ (F.args_tuple_iterator_next_1 _)))
  show wpAny _ _ (field (.ref it) 0 >>= _) _ _ s
  refine wpAny_bind (wpAny_field ho hd (x := .ref t) rfl ?_)
  show wpAny _ _ (if (Value.ref t == Value.none) = true then _ else _) _ _ s
  rw [if_neg (show ¬ ((Value.ref t == Value.none) = true) from Bool.false_ne_true)]
  show wpAny _ _ (field (.ref it) 1 >>= _) _ _ s
  refine wpAny_bind (wpAny_field ho hd (x := .int i 0) rfl ?_)
  show wpAny _ _ (seqItems? (.ref t) >>= _) _ _ s
  refine wpAny_bind (wpAny_seqItems hol hdl ?_);simp only [Int.toNat_natCast, hx];refine wpAny_bind (wpAny_rule (wpAny_bind (wpAny_setField ho hd (by simp) ?_)))
  show wpAny _ _ (newExc (.type "StopIteration") [] >>= _) _ _ _
  refine wpAny_bind ?_;simp only [newExc, newTuple];refine wpAny_bind (wpAny_newObj_type ?_ (by size_fits));refine wpAny_bind (m := firstArgMember _ _) (wpAny_of_eq (a := Value.none) (by first | rfl | (simp only [firstArgMember]; rfl)) ?_);refine wpAny_newObj_type ?_ (by size_fits);simp only [raiseNew];refine wpAny_bind (wpAny_handled ?_)
  first | rw [show A.in1.handled = none from hh] | rw [hh]
  refine wpAny_bind (wpAny_pure (wpAny_throw ?_));exact hE _ _ (((Heap.SameBut.update ..).extBut.push _).push _) ⟨_, Heap.get?_push_size _ rfl, rfl⟩
structure Apart (z TI TO i1 i2 : Addr) (l1 l2 : List Addr) : Prop where
  TIz : TI ≠ z
  TOz : TO ≠ z
  TITO : TI ≠ TO
  i1z : i1 ≠ z
  i2z : i2 ≠ z
  i1TI : i1 ≠ TI
  i2TI : i2 ≠ TI
  i1TO : i1 ≠ TO
  i2TO : i2 ≠ TO
  i12 : i1 ≠ i2
  in1 : i1 ∈ l1
  in2 : i2 ∈ l2
  no1 : ∀ c ∈ l1, c ≠ z ∧ c ≠ TI ∧ c ≠ TO ∧ c ≠ i2
  no2 : ∀ c ∈ l2, c ≠ z ∧ c ≠ TI ∧ c ≠ TO ∧ c ≠ i1
section
variable {z TI TO i1 i2 : Addr} {l1 l2 : List Addr} {x y : Value} {C1 N1 C2 N2 : Heap → Prop}
theorem z8G {A : Around} {s : Shared} {E : Value → Shared → Prop} {a b : Value} {Q : Value → Shared → Prop} (D : Apart z TI TO i1 i2 l1 l2) (d1 : z83 prog w i1 x C1 N1) (d2 : z83 prog w i2 y C2 N2) (o1 : On l1 N1) (o2 : On l2 N2) (p1 : On l1 C1) (p2 : On l2 C2)
    (hz : IsZip s.heap z TI TO .none) (hTI : IsPair s.heap TI (.ref i1) (.ref i2)) (hTO : IsPair s.heap TO a b) (h1 : C1 s.heap) (h2 : C2 s.heap)
    (hQ : ∀ h', IsZip h' z TI TO (rawInt s.heap.objs.size) → IsPair h' TO x y → N1 h' → N2 h' → IsPair h' s.heap.objs.size x y → h'.objs.size = s.heap.objs.size + 1 →
      (∀ c o, c ≠ z → c ≠ TO → c ≠ i1 → c ≠ i2 → s.heap.get? c = some o → h'.get? c = some o) → Q (.ref s.heap.objs.size) { s with heap := h' }) :
    wpAny (model prog w) A (Builtin.«zip.__next__» ⟨[.ref z], []⟩) (fun fin s' => ∃ v, fin = .done (.ret v) ∧ Q v s') E s := by
  show wpAny _ _ (field (.ref z) 2 >>= _) _ _ _
  refine wpAny_bind (wpAny_field hz rfl (x := .bool false) rfl ?_)
  show wpAny _ _ (field (.ref z) 3 >>= _) _ _ _
  refine wpAny_bind (wpAny_field hz rfl (x := .ref TI) rfl ?_);refine wpAny_bind (wpAny_seqItems hTI rfl ?_)
  show wpAny _ _ (Builtin.SmallTypes.ownedTupleIsFree (.ref z) >>= _) _ _ _
  refine wpAny_bind ?_;unfold Builtin.SmallTypes.ownedTupleIsFree;refine wpAny_bind (wpAny_field hz rfl (x := .none) rfl (wpAny_pure ?_));simp only [if_true];refine wpAny_bind (wpAny_rule ?_);refine wpAny_bind (wpAny_field hz rfl (x := .ref TO) rfl ?_);refine wpAny_bind (wpAny_setField_rec hz (by simp) fun ha za sa => ?_);replace za : IsZip ha z TI TO .ellipsis := za;refine wpAny_bind ?_;simp only [List.zipIdx_cons, List.zipIdx_nil, List.forIn_cons, List.forIn_nil];refine wpAny_bind (wpAny_bind (wpAny_onRaise ?_))
  show wpAny _ _ (nextOf (.ref i1) >>= _) _ _ _
  refine wpAny_bind (d1 _ _ _ _ (p1 _ _ (fun c hc o e => sa.extBut c o (D.no1 c hc).1 e) h1) fun hb nb sb => wpAny_pure ?_);have Tb : IsPair hb TO a b := sb.extBut _ _ D.i1TO.symm (sa.extBut _ _ D.TOz hTO);refine wpAny_bind (wpAny_seqItems Tb rfl ?_);refine wpAny_bind (wpAny_updateSeq_pair Tb fun hc Tc sc => ?_);replace Tc : IsPair hc TO x b := Tc;refine wpAny_bind (wpAny_letGo (wpAny_pure ?_));refine wpAny_bind (wpAny_bind (wpAny_onRaise ?_))
  show wpAny _ _ (nextOf (.ref i2) >>= _) _ _ _
  have k3 : ∀ c o, c ≠ z → c ≠ i1 → c ≠ TO → s.heap.get? c = some o → hc.get? c = some o := fun c o c1 c2 c3 e => sc.extBut c o c3 (sb.extBut c o c2 (sa.extBut c o c1 e))
  refine wpAny_bind (d2 _ _ _ _ (p2 _ _ (fun c hc o e => k3 c o (D.no2 c hc).1 (D.no2 c hc).2.2.2 (D.no2 c hc).2.2.1 e) h2) fun hd nd sd => wpAny_pure ?_);have Td : IsPair hd TO x b := sd.extBut _ _ D.i2TO.symm Tc;refine wpAny_bind (wpAny_seqItems Td rfl ?_);refine wpAny_bind (wpAny_updateSeq_pair Td fun he Te se => ?_);replace Te : IsPair he TO x y := Te;refine wpAny_bind (wpAny_letGo (wpAny_pure (wpAny_pure ?_)));refine wpAny_bind (wpAny_seqItems Te rfl ?_);refine wpAny_bind (wpAny_newTuple ?_);have hsz : he.objs.size = s.heap.objs.size := by rw [se.1, sd.1, sc.1, sb.1, sa.1]
  have ze : IsZip he z TI TO .ellipsis := se.extBut _ _ D.TOz.symm (sd.extBut _ _ D.i2z.symm (sc.extBut _ _ D.TOz.symm (sb.extBut _ _ D.i1z.symm za)));have k5 : ∀ c o, c ≠ z → c ≠ TO → c ≠ i1 → c ≠ i2 → s.heap.get? c = some o → he.get? c = some o := fun c o c1 c2 c3 c4 e => se.extBut c o c2 (sd.extBut c o c4 (k3 c o c1 c3 c2 e))
  have n1 : N1 he := o1 _ _ (fun c hc o e => se.extBut c o (D.no1 c hc).2.2.1 (sd.extBut c o (D.no1 c hc).2.2.2 (sc.extBut c o (D.no1 c hc).2.2.1 e))) nb;have n2 : N2 he := o2 _ _ (fun c hc o e => se.extBut c o (D.no2 c hc).2.2.1 e) nd;have zlt : z < he.objs.size := Heap.lt_size ze;have Tlt : TO < he.objs.size := Heap.lt_size Te
  show wpAny _ _ (Builtin.SmallTypes.ownedTupleHandOut (.ref z) (.ref he.objs.size) >>= _) _ _ _
  refine wpAny_bind ?_;unfold Builtin.SmallTypes.ownedTupleHandOut;have zf : IsZip (he.push { cls := .type "tuple", data := .seq #[x, y] }) z TI TO .ellipsis := Heap.get?_push_of_some _ ze;refine wpAny_bind (wpAny_setField_rec zf (by simp) fun hg zg sg => ?_);replace zg : IsZip hg z TI TO (rawInt he.objs.size) := zg;refine wpAny_setField_rec zg (by simp) fun hh zh sh => ?_
  replace zh : IsZip hh z TI TO (rawInt he.objs.size) := zh;have up : ∀ c o, c ≠ z → he.get? c = some o → hh.get? c = some o := fun c o c1 e => sh.extBut _ _ c1 (sg.extBut _ _ c1 (Heap.get?_push_of_some _ e))
  have Th : IsPair hh he.objs.size x y := sh.extBut _ _ (Nat.ne_of_gt zlt) (sg.extBut _ _ (Nat.ne_of_gt zlt) (Heap.get?_push_size _ rfl));have z8 : hh.objs.size = he.objs.size + 1 := by rw [sh.1, sg.1, Heap.size_push]
  rw [hsz] at zh Th z8;refine wpAny_pure ⟨_, rfl, ?_⟩
  show Q (.ref he.objs.size) _
  rw [hsz];exact hQ hh zh (up _ _ D.TOz Te) (o1 _ _ (fun c hc o e => up c o (D.no1 c hc).1 e) n1) (o2 _ _ (fun c hc o e => up c o (D.no2 c hc).1 e) n2) Th z8 fun c o c1 c2 c3 c4 e => up c o c1 (k5 c o c1 c2 c3 c4 e)
theorem z9N {A : Around} {s : Shared} {E : Value → Shared → Prop} {a b : Value} {Q : PySem.Fin → Shared → Prop} (hh : A.handled = none) (D : Apart z TI TO i1 i2 l1 l2) (d1 : z4M prog w i1 C1) (p1 : On l1 C1)
    (hz : IsZip s.heap z TI TO .none) (hTI : IsPair s.heap TI (.ref i1) (.ref i2)) (hTO : IsPair s.heap TO a b) (h1 : C1 s.heap)
    (hE : ∀ h' e, (∀ c o, c ≠ z → c ≠ i1 → s.heap.get? c = some o → h'.get? c = some o) → (∃ o, h'.get? e = some o ∧ o.cls = .type "StopIteration") → E (.ref e) { s with heap := h' }) :
    wpAny (model prog w) A (Builtin.«zip.__next__» ⟨[.ref z], []⟩) Q E s := by
  show wpAny _ _ (field (.ref z) 2 >>= _) _ _ _
  refine wpAny_bind (wpAny_field hz rfl (x := .bool false) rfl ?_)
  show wpAny _ _ (field (.ref z) 3 >>= _) _ _ _
  refine wpAny_bind (wpAny_field hz rfl (x := .ref TI) rfl ?_);refine wpAny_bind (wpAny_seqItems hTI rfl ?_)
  show wpAny _ _ (Builtin.SmallTypes.ownedTupleIsFree (.ref z) >>= _) _ _ _
  refine wpAny_bind ?_;unfold Builtin.SmallTypes.ownedTupleIsFree;refine wpAny_bind (wpAny_field hz rfl (x := .none) rfl (wpAny_pure ?_));simp only [if_true];refine wpAny_bind (wpAny_rule ?_);refine wpAny_bind (wpAny_field hz rfl (x := .ref TO) rfl ?_);refine wpAny_bind (wpAny_setField_rec hz (by simp) fun ha za sa => ?_);replace za : IsZip ha z TI TO .ellipsis := za;refine wpAny_bind ?_;simp only [List.zipIdx_cons, List.zipIdx_nil, List.forIn_cons, List.forIn_nil];refine wpAny_bind (wpAny_bind (wpAny_onRaise ?_))
  show wpAny _ _ (nextOf (.ref i1) >>= _) _ _ _
  refine wpAny_bind (d1 _ _ _ _ hh (p1 _ _ (fun c hc o e => sa.extBut c o (D.no1 c hc).1 e) h1) fun hb e sb he => ?_);obtain ⟨oe, hoe, hce⟩ := he;have zb : IsZip hb z TI TO .ellipsis := sb _ _ D.i1z.symm za;have hez : e ≠ z := fun x => by subst x; rw [zb] at hoe; cases hoe; simp at hce
  exact wpAny_setField_rec zb (by simp) fun hc _ sc => hE hc e (fun c o c1 c3 x => sc.extBut _ _ c1 (sb _ _ c3 (sa.extBut _ _ c1 x))) ⟨oe, sc.extBut _ _ hez hoe, hce⟩
end
end
end L2

namespace L2
open PySem PySem.Spec PyProof.Rows
section
variable {X : Cx} {pins : List (Addr × Obj)} {σ : St} {H : Hp} {s : Shared} {h' : Heap}
theorem Inv.turnedL {t' : Nat} {ch : List Addr} (I : Inv X pins σ H s) (k : ∀ b o, b ∉ ch → s.heap.get? b = some o → h'.get? b = some o) (hf : ∀ b ∈ ch, z19 X pins H b) : Inv X pins σ H { s with heap := h', toks := t' } := by
  have nit : ∀ b u, H b = some u → b ∉ ch := fun b u e z => by rw [(hf b z).1] at e; cases e
  refine I.step (g' := s.gens) (d' := s.drawn) (ch := ch) (fun b hb => ?_) (fun b o _ _ hc e _ => k b o hc e) (fun b o _ _ hc e _ => ⟨o.slots, k b o hc e⟩) (fun _ _ _ _ n => n)
    (fun b o hc e => ⟨o, k b o hc e⟩) (fun _ _ e => e) (fun _ _ _ e => e) (fun b ps e => ⟨#[], by rw [e]; simp⟩) (fun m hm => ?_) (fun b u e => ?_) I.bare
  · obtain ⟨_, f1, _, f3, f4, f5⟩ := hf b hb;exact ⟨f3, f1, f4, f5⟩
  · obtain ⟨o, es, ep, ho, r⟩ := hm;exact ⟨o, es, ep, k _ o (fun z => (hf _ z).2.1 rfl) ho, r⟩
  · refine (I.hok b u e).stay (fun c v hc q => k c v ?_ q) (fun _ q => q) fun _ _ q => q
    rcases hc with z | z
    · rw [z]; exact nit b u e
    · exact nit c _ z
theorem Inv.turnedLaid {t' : Nat} {ch : List Addr} {a : Addr} {o : HO} (I : Inv X pins σ H s) (k : ∀ b o, b ∉ ch → s.heap.get? b = some o → h'.get? b = some o) (hf : ∀ b ∈ ch, z19 X pins H b) (hp : s.heap.objs.size ≤ a)
    (new : yP X.prog X.w (upd H a o) h' a o) : Inv X pins σ (upd H a o) { s with heap := h', toks := t' } := by
  have nit : ∀ b u, H b = some u → b ∉ ch := fun b u e z => by rw [(hf b z).1] at e; cases e
  have hn : H a = none := I.hok.fresh hp;refine I.step (g' := s.gens) (d' := s.drawn) (ch := ch) (fun b hb => ?_) (fun b o _ _ hc e _ => k b o hc e) (fun b o _ _ hc e _ => ⟨o.slots, k b o hc e⟩) (fun b u _ q n => by rw [zO (Nat.ne_of_lt (Nat.lt_of_lt_of_le (Heap.lt_size q) hp))]; exact n)
    (fun b o hc e => ⟨o, k b o hc e⟩) (fun b xs e => by rw [zO (zy e hn)]; exact e) (fun b _ _ e => by rw [zO (zy e hn)]; exact e) (fun b ps e => ⟨#[], by rw [zO (zy e hn), e]; simp⟩) (fun m hm => ?_) (fun b u e => ?_) I.bare
  · obtain ⟨_, f1, _, f3, f4, f5⟩ := hf b hb;exact ⟨f3, f1, f4, f5⟩
  · obtain ⟨o, es, ep, ho, r⟩ := hm;exact ⟨o, es, ep, k _ o (fun z => (hf _ z).2.1 rfl) ho, r⟩
  · by_cases hb : b = a
    · subst hb;rw [zU] at e;cases e;exact new
    · rw [zO hb] at e;refine (I.hok b u e).stay (fun c v hc q => k c v ?_ q) (fun c q => ?_) fun c xs q => ?_
      · rcases hc with z | z
        · rw [z]; exact nit b u e
        · exact nit c _ z
      · rw [zO (zy q hn)]; exact q
      · rw [zO (zy q hn)]; exact q
end
def Itz (K : PySem.W.Frag) (a b : Addr) : It :=
  ⟨fun i H => ∃ xs ys x y, SqT K H a xs ∧ SqL K H b ys ∧ xs[i]? = some x ∧ ys[i]? = some y,
   fun i H v H' => ∃ p x y, v = .ref p ∧ H p = none ∧ H' = upd H p (.tup [x, y]) ∧ (∀ xs, SqT K H a xs → xs[i]? = some x) ∧ ∀ ys, SqL K H b ys → ys[i]? = some y,
   fun i H => ∃ xs ys, SqT K H a xs ∧ SqL K H b ys ∧ xs.length ≤ i⟩
def zbO (z TI TO i1 i2 a b : Addr) (i : Nat) (h : Heap) : Prop := IsZip h z TI TO .none ∧ IsPair h TI (.ref i1) (.ref i2) ∧ (∃ x y, IsPair h TO x y) ∧ h.IsTupleIter i1 a i ∧ h.IsListIter i2 b i
theorem z8A {P : Program} {w : World} {K : PySem.W.Frag} {elts : List Expr} {x1} {tp : Pos} {z TI TO i1 i2 a b : Addr} (D : Apart z TI TO i1 i2 [i1, a] [i2, b]) :
    Turn P w K (.Tuple elts x1 tp) (Itz K a b) [z, TI, TO, i1, i2] z (zbO z TI TO i1 i2 a b) where
  mem := by simp
  obj := fun i h st c hc => by
    obtain ⟨hz, hTI, ⟨x, y, hTO⟩, ⟨o1, e1, c1, d1⟩, ⟨o2, e2, c2, d2⟩⟩ := st;simp only [List.mem_cons, List.not_mem_nil, or_false] at hc;rcases hc with rfl | rfl | rfl | rfl | rfl
    · exact ⟨_, hz, fun v q => by cases q⟩
    · exact ⟨_, hTI, fun v q => by cases q⟩
    · exact ⟨_, hTO, fun v q => by cases q⟩
    · exact ⟨o1, e1, fun v q => by rw [d1] at q; cases q⟩
    · exact ⟨o2, e2, fun v q => by rw [d2] at q; cases q⟩
  keep := fun i h h' st k => by
    obtain ⟨hz, hTI, ⟨x, y, hTO⟩, h1, h2⟩ := st;exact ⟨k z (by simp) _ hz, k TI (by simp) _ hTI, ⟨x, y, k TO (by simp) _ hTO⟩, h1.at fun o e => k i1 (by simp) o e, h2.at fun o e => k i2 (by simp) o e⟩
  item := by
    intro X hP hw hK hc i pins s σ H E I hf st hg;subst hP hw hK;obtain ⟨xs, ys, x, y, hxs, hys, hx, hy⟩ := hg;obtain ⟨its, rv, p, hz1⟩ := I.tuple hxs;obtain ⟨jts, rw', q, hz2⟩ := I.list hys;obtain ⟨u, hu, ru⟩ := rv.get hx;obtain ⟨v, hv, rv'⟩ := rw'.get hy;obtain ⟨hz, hTI, ⟨a0, b0, hTO⟩, h1, h2⟩ := st;have hT : s.TypeIs (.ref z) "zip" := ⟨_, hz, rfl⟩;have d1 : z83 X.prog X.w i1 u (fun h => h.IsTupleIter i1 a i ∧ h.IsTuple a its.toArray) (fun h => h.IsTupleIter i1 a (i + 1)) := draw_tuple (by simpa using hu);have d2 : z83 X.prog X.w i2 v (fun h => h.IsListIter i2 b i ∧ h.IsList b jts.toArray) (fun h => h.IsListIter i2 b (i + 1)) := z7I (by simpa using hv);have o1 : On [i1, a] (fun h => h.IsTupleIter i1 a (i + 1)) := fun h h' k st => st.at fun o e => k i1 (by simp) o e
    have o2 : On [i2, b] (fun h => h.IsListIter i2 b (i + 1)) := fun h h' k st => st.at fun o e => k i2 (by simp) o e
    have p1 : On [i1, a] (fun h => h.IsTupleIter i1 a i ∧ h.IsTuple a its.toArray) := fun h h' k st => ⟨st.1.at fun o e => k i1 (by simp) o e, let ⟨o, ho, r⟩ := st.2; ⟨o, k a (by simp) o ho, r⟩⟩
    have p2 : On [i2, b] (fun h => h.IsListIter i2 b i ∧ h.IsList b jts.toArray) := fun h h' k st => ⟨st.1.at fun o e => k i2 (by simp) o e, let ⟨o, ho, r⟩ := st.2; ⟨o, k b (by simp) o ho, r⟩⟩
    unfold pyNext;refine wpAny_bind (wpAny_attempt (wpAny_callSpecial?_slot (name := Str.ofString "__next__") hT F.slot_zip_next (wpAny_call_entry F.slot_zip_next hT F.entry_zip_next
      (z8G D d1 d2 o1 o2 p1 p2 hz hTI hTO ⟨h1, p⟩ ⟨h2, q.isList⟩ fun hh g1 g2 g3 g4 g5 g6 g7 => wpAny_pure ⟨_, rfl, ?_⟩) (F.args_zip_next_1 _))))
    refine wpAny_letOwnedTupleGo_zip g1 fun hk zk sk => ?_
    have lt : ∀ {c o}, s.heap.get? c = some o → c ≠ s.heap.objs.size := fun e => Nat.ne_of_lt (Heap.lt_size e)
    have kk : ∀ c o, c ∉ [z, TI, TO, i1, i2] → s.heap.get? c = some o → hk.get? c = some o := fun c o hc e => by
      simp only [List.mem_cons, List.not_mem_nil, or_false, not_or] at hc;exact sk.extBut _ _ hc.1 (g7 c o hc.1 hc.2.2.1 hc.2.2.2.1 hc.2.2.2.2 e)
    have Tk : IsPair hk s.heap.objs.size u v := sk.extBut _ _ (Ne.symm (lt hz)) g5;have fresh : H s.heap.objs.size = none := I.hok.fresh (Nat.le_refl _);have I1 : Inv X pins σ (upd H s.heap.objs.size (.tup [x, y])) { s with heap := hk } := I.turnedLaid (t' := s.toks) (ch := [z, TI, TO, i1, i2]) kk hf (Nat.le_refl _) ⟨zt (by show 2 ≤ _; decide), [u, v], .cons ru (.cons rv' .nil), ⟨_, Tk, rfl, 0, rfl⟩⟩;have TIk : IsPair hk TI (.ref i1) (.ref i2) := sk.extBut _ _ D.TIz (g7 _ _ D.TIz D.TITO D.i1TI.symm D.i2TI.symm hTI);refine ⟨.ref s.heap.objs.size, _, I1, rfl, ⟨s.heap.objs.size, x, y, rfl, fresh, rfl, fun xs' h' => ?_, fun ys' h' => ?_⟩, ⟨zk, TIk, ⟨u, v, sk.extBut _ _ D.TOz g2⟩, g3.at fun o e => sk.extBut _ o D.i1z e, g4.at fun o e => sk.extBut _ o D.i2z e⟩, fun c hc => ?_⟩
    · rw [I.tuple_inj h' hxs]; exact hx
    · rw [I.list_inj h' hys]; exact hy
    · have hcs : c ≠ s.heap.objs.size := by
        simp only [List.mem_cons, List.not_mem_nil, or_false] at hc;obtain ⟨o1, e1, _⟩ := id h1;obtain ⟨o2, e2, _⟩ := id h2;rcases hc with rfl | rfl | rfl | rfl | rfl
        · exact lt hz
        · exact lt hTI
        · exact lt hTO
        · exact lt e1
        · exact lt e2
      rw [zO hcs];exact (hf c hc).1
  done := by
    intro X hP hw hK hc i pins s σ H E I hf st hg;subst hP hw hK;obtain ⟨xs, ys, hxs, hys, hx⟩ := hg;obtain ⟨its, rv, p, hz1⟩ := I.tuple hxs;have hl := rv.length;obtain ⟨hz, hTI, ⟨a0, b0, hTO⟩, h1, h2⟩ := st;have hT : s.TypeIs (.ref z) "zip" := ⟨_, hz, rfl⟩;have d1 : z4M X.prog X.w i1 (fun h => h.IsTupleIter i1 a i ∧ h.IsTuple a its.toArray) := z7y (by simp; omega);have p1 : On [i1, a] (fun h => h.IsTupleIter i1 a i ∧ h.IsTuple a its.toArray) := fun h h' k st => ⟨st.1.at fun o e => k i1 (by simp) o e, let ⟨o, ho, r⟩ := st.2; ⟨o, k a (by simp) o ho, r⟩⟩
    unfold pyNext;refine wpAny_bind (wpAny_attempt (wpAny_callSpecial?_slot (name := Str.ofString "__next__") hT F.slot_zip_next
      (wpAny_call_entry F.slot_zip_next hT F.entry_zip_next (z9N (I.ok.hd hc) D d1 p1 hz hTI hTO ⟨h1, p⟩ fun h' e hk he => ?_) (F.args_zip_next_1 _))))
    obtain ⟨o, ho, hcl⟩ := he;refine wpAny_bind (wpAny_isInstance (T := "StopIteration") (b := true) ⟨o, ho, hcl⟩ isSubtype_stop ?_);refine wpAny_pure ⟨rfl, I.turnedL (t' := s.toks) (ch := [z, TI, TO, i1, i2]) (fun c o hc e => ?_) hf⟩;simp only [List.mem_cons, List.not_mem_nil, or_false, not_or] at hc;exact hk c o hc.1 hc.2.2.2.1 e
  self := fun _ _ _ _ _ st h => wpAny_pyIter_zip st.1 h
abbrev zA (h : Heap) (a : Addr) : Heap := h.push { cls := .type "tuple_iterator", data := .fields #[.ref a, .int 0 0] }
abbrev zB (h : Heap) (a b : Addr) : Heap := (zA h a).push { cls := .type "list_iterator", data := .fields #[.ref b, .int 0 0] }
abbrev zC (h : Heap) (a b : Addr) : Heap := (zB h a b).push { cls := .type "tuple", data := .seq #[.ref h.objs.size, .ref (zA h a).objs.size] }
abbrev zD (h : Heap) (a b : Addr) : Heap := (zC h a b).push { cls := .type "tuple", data := .seq #[.none, .none] }
abbrev zE (h : Heap) (a b : Addr) : Heap := (zD h a b).push { cls := .type "zip", data := .fields #[.none, .bool false, .bool false, .ref (zB h a b).objs.size, .ref (zC h a b).objs.size] }
theorem z5y (a b : Addr) (xs ys : Array Value) :
    Meets (Builtin.«zip.__new__» ⟨[.type "zip", .ref a, .ref b], []⟩) (fun _ R s => s.heap.IsTuple a xs ∧ s.heap.IsList b ys ∧ R (.ok (.ret (.ref (zD s.heap a b).objs.size))) { s with heap := zE s.heap a b }) :=
  .of_wp fun prog w A R s h => by
    obtain ⟨hp, g, d, tk, os⟩ := s;obtain ⟨hl1, hl2, h⟩ := h;have hsub := sub_zip;have hL1 : Heap.IsTuple (Shared.heap ⟨hp, g, d, tk, os⟩) a xs := hl1;have hL2 : Heap.IsList (Shared.heap ⟨hp.push { cls := .type "tuple_iterator", data := .fields #[.ref a, .int 0 0] }, g, d, tk, os⟩) b ys := Heap.IsList.push hl2 _
    wp_walk using wpAny_pyIter_tuple hL1, wpAny_pyIter_list hL2
    exact ⟨_, rfl, h⟩
theorem z6p {prog : Program} {w : World} {A : Around} {E : Value → Shared → Prop} {s : Shared} {a b : Addr} {xs ys : Array Value} {Q : Value → Shared → Prop} (hl1 : s.heap.IsTuple a xs) (hl2 : s.heap.IsList b ys)
    (h : ∀ h', IsZip h' (s.heap.objs.size + 4) (s.heap.objs.size + 2) (s.heap.objs.size + 3) .none → IsPair h' (s.heap.objs.size + 2) (.ref s.heap.objs.size) (.ref (s.heap.objs.size + 1)) →
      IsPair h' (s.heap.objs.size + 3) .none .none → h'.IsTupleIter s.heap.objs.size a 0 → h'.IsListIter (s.heap.objs.size + 1) b 0 → (∀ c o, s.heap.get? c = some o → h'.get? c = some o) → Q (.ref (s.heap.objs.size + 4)) { s with heap := h' }) :
    wpAny (model prog w) A (call (.type "zip") [.ref a, .ref b]) Q E s := by
  refine callType_new F.called_zip (by decide) (F.typeCall_zip_2 _ _) (F.newCall_zip_2 _ _) (fun obj => F.args_object_init_3 obj _ _) F.entry_zip_new (z5y a b xs ys) ⟨hl1, hl2, ?_⟩;have z1 : (zA s.heap a).objs.size = s.heap.objs.size + 1 := Heap.size_push ..;have z2 : (zB s.heap a b).objs.size = s.heap.objs.size + 2 := by rw [Heap.size_push, z1]
  have z3 : (zC s.heap a b).objs.size = s.heap.objs.size + 3 := by rw [Heap.size_push, z2]
  have z4 : (zD s.heap a b).objs.size = s.heap.objs.size + 4 := by rw [Heap.size_push, z3]
  have g5 : (zE s.heap a b).get? (zD s.heap a b).objs.size = some _ := Heap.get?_push_size _ rfl;have g4 : (zE s.heap a b).get? (zC s.heap a b).objs.size = some _ := Heap.get?_push_of_some _ (Heap.get?_push_size _ rfl);have g3 : (zE s.heap a b).get? (zB s.heap a b).objs.size = some _ := Heap.get?_push_of_some _ (Heap.get?_push_of_some _ (Heap.get?_push_size _ rfl));have g2 : (zE s.heap a b).get? (zA s.heap a).objs.size = some _ := Heap.get?_push_of_some _ (Heap.get?_push_of_some _ (Heap.get?_push_of_some _ (Heap.get?_push_size _ rfl)));have g1 : (zE s.heap a b).get? s.heap.objs.size = some _ := Heap.get?_push_of_some _ (Heap.get?_push_of_some _ (Heap.get?_push_of_some _ (Heap.get?_push_of_some _ (Heap.get?_push_size _ rfl))))
  show _ ∧ _
  rw [z2, z3, z4] at g5;rw [z1, z2] at g3;rw [z3] at g4;rw [z1] at g2;rw [z4];exact ⟨⟨_, g5, rfl⟩, h _ g5 g3 g4 ⟨_, g1, rfl, rfl⟩ ⟨_, g2, rfl, rfl⟩ fun c o x => Heap.get?_push_of_some _ (Heap.get?_push_of_some _ (Heap.get?_push_of_some _ (Heap.get?_push_of_some _ (Heap.get?_push_of_some _ x))))⟩
theorem apart_new (n a b : Nat) (ha : a < n) (hb : b < n) : Apart (n + 4) (n + 2) (n + 3) n (n + 1) [n, a] [n + 1, b] := by
  have f : ∀ {x y : Nat}, x < y ∨ y < x → (x : Addr) ≠ y := fun h e => by
    cases h with
    | inl h => exact absurd (e ▸ h) (Nat.lt_irrefl _)
    | inr h => exact absurd (e ▸ h) (Nat.lt_irrefl _)
  refine ⟨f (by omega), f (by omega), f (by omega), f (by omega), f (by omega), f (by omega), f (by omega), f (by omega), f (by omega), f (by omega), List.mem_cons_self, List.mem_cons_self, fun c hc => ?_, fun c hc => ?_⟩
  all_goals
    rcases List.mem_cons.mp hc with e | hc
    · subst e;exact ⟨f (by omega), f (by omega), f (by omega), f (by omega)⟩
    · have e := List.mem_singleton.mp hc;subst e;exact ⟨f (by omega), f (by omega), f (by omega), f (by omega)⟩
section
variable {X : Cx} {elts : List Expr} {x1 : Nat} {tp : Pos}
def zbX (K : PySem.W.Frag) (ta : TA) : TI := fun σ H R => ta σ H fun vs H1 => ∃ a b, vs = [.ref a, .ref b] ∧ (∃ xs, SqT K H1 a xs) ∧ (∃ ys, SqL K H1 b ys) ∧ R (Itz K a b) H1
theorem zaV {a b : Expr} {ta : TA} {p pos : Pos} (hg : Gl X "zip") (hm : X.mg "zip" = none) (ha : PA X [a, b] ta) (hs : starEach [a, b] X.env = [(false, eval a X.env), (false, eval b X.env)] := by rfl) (hs2 : starEach [b] X.env = [(false, eval b X.env)] := by rfl) :
    PI X (.Tuple elts x1 tp) (.Call (.Name "zip" p) [a, b] [] pos) (zbX X.K ta) := by
  intro pins s σ H R I h;refine Call_ (z2p I hg hm boot_zip (PyProof.Rows.callWith_type1 (thn (ha pos pins s σ H _ I h) fun us s1 ⟨vs, H1, I1, r1, q1⟩ => ?_) (by rw [hs, hs2]) (by rw [hs2]; rfl)));obtain ⟨l1, l2, e, ⟨xs, hxs⟩, ⟨ys, hys⟩, q⟩ := q1;subst e;obtain ⟨u, v, rfl, ru, rv⟩ := vals2 r1;cases ru;cases rv;obtain ⟨its, rx, pt, _⟩ := I1.tuple hxs;obtain ⟨jts, ry, pl, _⟩ := I1.list hys;have lt1 : l1 < s1.heap.objs.size := by obtain ⟨o, e, _⟩ := pt; exact Heap.lt_size e
  have lt2 : l2 < s1.heap.objs.size := by obtain ⟨o, e, _⟩ := pl.isList; exact Heap.lt_size e
  refine z6p pt pl.isList fun h' g1 g2 g3 g4 g5 kk => ?_
  refine wpAny_pyIter_zip g1 ?_;refine ⟨s1.heap.objs.size + 4, [s1.heap.objs.size + 4, s1.heap.objs.size + 2, s1.heap.objs.size + 3, s1.heap.objs.size, s1.heap.objs.size + 1], _, _, H1, rfl, I1.kept (t' := s1.toks) kk, z8A (a := l1) (b := l2) ?_, ⟨g1, g2, ⟨_, _, g3⟩, g4, g5⟩, fun b hb => ?_, q⟩
  · exact apart_new _ _ _ lt1 lt2
  · have hle : s1.heap.objs.size ≤ b := by
      simp only [List.mem_cons, List.not_mem_nil, or_false] at hb;rcases hb with e | e | e | e | e <;> rw [e]
      · exact Nat.le_add_right _ 4
      · exact Nat.le_add_right _ 2
      · exact Nat.le_add_right _ 3
      · exact Nat.le_refl _
      · exact Nat.le_add_right _ 1
    exact I1.fpOk hle (I1.hok.fresh hle)
end
end L2

namespace L2
open PySem PySem.Spec PyProof.Rows
structure CompScG (X : Cx) (scope : Scope) (xs : List Str) (fr : List Str) (ix : List Nat) : Prop where
  kind : scope.kind = .function
  names : ∀ y ∈ scope.names, y.2 = .local → scope.names.lookup y.1 = some .local
  uniq : (scope.names.map (·.1)).Nodup
  clo : ∀ y ∈ scope.names, y.2 = .free → X.env.kindOf y.1 = some .cell ∨ X.env.kindOf y.1 = some .free
  free : ∀ (k : Nat) (y : Str), fr[k]? = some y → ∃ j, ix[k]? = some j ∧ X.N[j]? = some y ∧ scope.names.lookup y = some .free
  nd : (xs ++ fr).Nodup
  len : fr.length = ix.length
def z8Q (σ : St) (ix : List Nat) (oxs : List (Option V)) : St := oxs ++ ix.map fun j => (σ[j]?).getD none
def z5p (sx : Scope) (NX : List Str) (scope : Scope) (xs fr : List Str) (ix : List Nat) : Bool :=
  (scope.kind == .function) && scope.names.all (fun y => y.2 != .local || scope.names.lookup y.1 == some .local) && decide ((scope.names.map (·.1)).Nodup) &&
  scope.names.all (fun y => y.2 != .free || (sx.names.lookup y.1 == some .cell || sx.names.lookup y.1 == some .free)) &&
  decide (fr.length = ix.length) && decide ((xs ++ fr).Nodup) && (fr.zip ix).all fun p => NX[p.2]? == some p.1 && scope.names.lookup p.1 == some .free
theorem CompScG.of {X : Cx} {scope sx : Scope} {NX : List Str} {xs fr : List Str} {ix : List Nat} (hs : X.env.scope = sx) (hN : X.N = NX) (h : z5p sx NX scope xs fr ix = true) : CompScG X scope xs fr ix := by
  simp only [z5p, Bool.and_eq_true, decide_eq_true_eq, beq_iff_eq, List.all_eq_true, Bool.or_eq_true, bne_iff_ne, ne_eq] at h;obtain ⟨⟨⟨⟨⟨⟨h1, h2⟩, h3⟩, h5⟩, h6⟩, h7⟩, h8⟩ := h;refine ⟨h1, fun y hy hk => ?_, h3, fun y hy hk => ?_, fun k y e => ?_, h7, h6⟩
  · rcases h2 y hy with q | q
    · exact absurd hk q
    · exact q
  · show X.env.scope.names.lookup y.1 = _ ∨ X.env.scope.names.lookup y.1 = _
    rw [hs];rcases h5 y hy with q | q
    · exact absurd hk q
    · exact q
  · have hk : k < ix.length := by rw [← h6]; exact (List.getElem?_eq_some_iff.mp e).1
    have hz : (fr.zip ix)[k]? = some (y, ix[k]) := by
      rw [List.getElem?_zip_eq_some];exact ⟨e, List.getElem?_eq_getElem hk⟩
    obtain ⟨a1, a2⟩ := h8 _ (List.mem_of_getElem? hz);exact ⟨ix[k], List.getElem?_eq_getElem hk, by rw [hN]; exact a1, a2⟩
section
variable {X : Cx} {pins : List (Addr × Obj)} {σ : St} {H : Hp} {s : Shared} {scope : Scope} {xs : List Str} {fr : List Str} {ix : List Nat} {fp : List Addr}
theorem z5X (S : CompScG X scope xs fr ix) (I : Inv X pins σ H s) (hfp : ∀ b ∈ fp, z19 X pins H b) (hlt : ∀ b ∈ fp, b < s.heap.objs.size) :
    Inv (j9 X scope (xs ++ fr) (s.heap.push zP).objs.size (cellsFrom ((s.heap.push zP).push jM).objs.size scope.names (kD X.env scope.names [])) s H fp pins) [] (z8Q σ ix (List.replicate xs.length none)) H
      { s with heap := pushCells ((s.heap.push zP).push jM) scope.names } := by
  have clo' : ∀ y ∈ scope.names, y.2 = .free → ∃ c, X.env.cells.lookup y.1 = some c := fun y hy hk => I.ok.has y.1 (S.clo y hy hk)
  have clook : ∀ y c, (kD X.env scope.names []).lookup y = some c → X.env.cells.lookup y = some c := z0z scope.names [] clo' fun y c e => by simp at e
  have chas : ∀ y, (y, NameKind.free) ∈ scope.names → ∃ c, (kD X.env scope.names []).lookup y = some c := fun y hy => z3b scope.names [] y (.inl hy)
  have cb : ∀ y c, (kD X.env scope.names []).lookup y = some c → c < s.heap.objs.size := fun y c e => by
    obtain ⟨v, q⟩ := I.cell y c (clook y c e);exact q.lt
  have z1 : (s.heap.push zP).objs.size = s.heap.objs.size + 1 := Heap.size_push ..;have z2 : ((s.heap.push zP).push jM).objs.size = s.heap.objs.size + 2 := by rw [Heap.size_push, z1]
  have up : ∀ b o, s.heap.get? b = some o → (pushCells ((s.heap.push zP).push jM) scope.names).get? b = some o := fun b o e => pushCells_keeps _ _ b o (Heap.get?_push_of_some _ (Heap.get?_push_of_some _ e))
  have cold : ∀ y c, (cellsFrom ((s.heap.push zP).push jM).objs.size scope.names (kD X.env scope.names [])).lookup y = some c →
      ((pushCells ((s.heap.push zP).push jM) scope.names).IsCell c none ∧ s.heap.objs.size + 2 ≤ c ∧ (y, NameKind.cell) ∈ scope.names) ∨ X.env.cells.lookup y = some c := fun y c e => by
    rcases z1l scope.names ((s.heap.push zP).push jM) (kD X.env scope.names []) y c e with ⟨a1, a2, a3⟩ | a
    · rw [z2] at a2;exact .inl ⟨a1, a2, a3⟩
    · exact .inr (clook y c a)
  have ok : (j9 X scope (xs ++ fr) (s.heap.push zP).objs.size (cellsFrom ((s.heap.push zP).push jM).objs.size scope.names (kD X.env scope.names [])) s H fp pins).Ok := by
    refine ⟨I.ok.mod, S.kind, I.ok.glob, I.ok.blt, ?_, ?_, ?_, ?_, I.ok.hd, I.ok.frames, .inl rfl, ?_, I.bs, Nat.le_trans I.ok.bsz I.sz, ?_, ?_, I.stack, I.stkFree⟩
    · show s.heap.objs.size ≤ (s.heap.push zP).objs.size
      rw [z1];omega
    · exact z4E scope.names _ _ (fun y c e => by rw [z2]; exact Nat.lt_of_lt_of_le (cb y c e) (Nat.le_add_right _ 2)) fun y z c e1 e2 => I.ok.inj y z c (clook y c e1) (clook z c e2)
    · intro y hy;refine z4W scope.names _ _ y ?_;have hy' : (relabel scope X.env).names.lookup y = some .cell ∨ (relabel scope X.env).names.lookup y = some .free := hy;rcases hy' with hy' | hy'
      · obtain ⟨k', e, ek⟩ := z1q hy';by_cases hc : (k' == NameKind.free && X.env.scope.kind == .function && X.env.kindOf y == some .cell) = true
        · rw [Bool.and_eq_true, Bool.and_eq_true] at hc;have e2 := beq_iff_eq.mp hc.1.1;subst e2;exact .inr (chas y (lookup_mem e))
        · rw [if_neg hc] at ek;subst ek;exact .inl (lookup_mem e)
      · obtain ⟨k', e, ek⟩ := z1q hy';by_cases hc : (k' == NameKind.free && X.env.scope.kind == .function && X.env.kindOf y == some .cell) = true
        · rw [if_pos hc] at ek;cases ek
        · rw [if_neg hc] at ek;subst ek;exact .inr (chas y (lookup_mem e))
    · intro y c hy e;have hm : (y, NameKind.cell) ∈ scope.names := of_decide_eq_true hy;have := z4Q scope.names _ _ y c hm e
      show s.heap.objs.size ≤ c
      rw [z2] at this;omega
    · intro b hb;have hb' := hlt b hb;refine ⟨?_, fun y c e => ?_⟩
      · show b ≠ (s.heap.push zP).objs.size
        rw [z1];exact Nat.ne_of_lt (Nat.lt_succ_of_lt hb')
      · rcases cold y c e with ⟨_, a2, _⟩ | a
        · exact Nat.ne_of_gt (Nat.lt_of_lt_of_le hb' (Nat.le_trans (Nat.le_add_right _ 2) a2))
        · exact (hfp b hb).2.2.2.2.1 y c a
    · intro b o e hb;obtain ⟨_, _, _, f3, _⟩ := hfp b hb;rcases f3 with f3 | f3
      · exact I.ok.noex b o e f3
      · exact absurd (Nat.lt_of_lt_of_le (Heap.lt_size e) (Nat.le_trans I.ok.bsz f3)) (Nat.lt_irrefl _)
    · intro b hb z;obtain ⟨_, f1, f2, _⟩ := hfp b hb;rcases List.mem_cons.mp (I.stkSub b z) with e | e
      · exact f1 e
      · exact f2 e
  refine ⟨ok, rfl, I.bare, Un.kept up, ⟨_, (Heap.Ns.new (s.heap.push zP) (.type "dict")).keeps (pushCells_keeps _ _), fun i y v e1 e2 e3 => ?_⟩, fun y c e => ?_, ?_, fun y c e => ?_, fun p hp => ?_, I.hok.kept up, ?_⟩
  · have e2 : (List.replicate xs.length none ++ ix.map fun j => (σ[j]?).getD none)[i]? = some (some v) := e2;have e1 : (xs ++ fr)[i]? = some y := e1;by_cases hix : i < xs.length
    · rw [List.getElem?_append_left (by rw [List.length_replicate]; exact hix), List.getElem?_replicate, if_pos hix] at e2;cases e2
    · obtain ⟨k, rfl⟩ : ∃ k, i = xs.length + k := ⟨i - xs.length, by omega⟩
      have e1' : fr[k]? = some y := by rw [List.getElem?_append_right (by omega), Nat.add_sub_cancel_left] at e1; exact e1
      have e2' : (ix.map fun j => (σ[j]?).getD none)[k]? = some (some v) := by rw [List.getElem?_append_right (by rw [List.length_replicate]; omega), List.length_replicate, Nat.add_sub_cancel_left] at e2; exact e2
      obtain ⟨j, hj, hN, hsc⟩ := S.free k y e1';rw [List.getElem?_map, hj] at e2';have e4 : (σ[j]?).getD none = some v := Option.some.inj e2';have e5 : σ[j]? = some (some v) := by
        cases q : σ[j]? with
        | none => rw [q] at e4; cases e4
        | some o => rw [q] at e4; exact congrArg some e4
      have hk := S.clo (y, NameKind.free) (lookup_mem hsc) rfl;obtain ⟨m, hn, hl⟩ := I.loc;obtain ⟨u, ru, lk⟩ := hl j y v hN e5 (.inr hk);refine ⟨u, ru, .inr ⟨?_, ?_⟩⟩
      · have q := jQ (env := X.env) hsc
        show (relabel scope X.env).names.lookup y = _ ∨ (relabel scope X.env).names.lookup y = _
        rw [show (relabel scope X.env).names.lookup y = _ from q];by_cases hc : (NameKind.free == NameKind.free && X.env.scope.kind == .function && X.env.kindOf y == some .cell) = true
        · rw [if_pos hc]; exact .inl rfl
        · rw [if_neg hc]; exact .inr rfl
      · rcases lk with ⟨lk, _⟩ | ⟨_, c, hc, hcell⟩
        · rcases hk with hk | hk
          · rw [show X.env.kindOf y = _ from hk] at lk; cases lk
          · rw [show X.env.kindOf y = _ from hk] at lk; cases lk
        · refine ⟨c, ?_, hcell.keeps up⟩;have hno : (y, NameKind.cell) ∉ scope.names := fun z => by
            have := z2j S.uniq hsc z;cases this
          show (cellsFrom _ scope.names _).lookup y = some c
          rw [z3h scope.names _ _ y hno];obtain ⟨c', hc'⟩ := chas y (lookup_mem hsc);have := clook y c' hc';rw [hc] at this;cases this;exact hc'
  · rcases cold y c e with ⟨a1, _, _⟩ | a
    · exact ⟨none, a1⟩
    · obtain ⟨v, q⟩ := I.cell y c a;exact ⟨v, q.keeps up⟩
  · show H (s.heap.push zP).objs.size = none
    exact I.hok.fresh (by rw [z1]; omega)
  · rcases cold y c e with ⟨_, a2, _⟩ | a
    · exact I.hok.fresh (by omega)
    · exact I.freeC y c a
  · have hp' : p ∈ X.pn ++ pins := by simpa using hp
    obtain ⟨e, n, ne, nf, d⟩ := I.pin p hp';have hpl := Heap.lt_size e;refine ⟨up _ _ e, n, ?_, fun z => ?_, d⟩
    · show p.1 ≠ (s.heap.push zP).objs.size
      rw [z1];exact Nat.ne_of_lt (Nat.lt_succ_of_lt hpl)
    · rcases List.mem_cons.mp (I.stkSub p.1 z) with q | q
      · exact ne q
      · exact nf q
  · show (z8Q σ ix (List.replicate xs.length none)).length = (xs ++ fr).length
    unfold z8Q;rw [List.length_append, List.length_map, List.length_append, S.len, List.length_replicate]
end
def z58 (J : It) (g : TG) (tc : TT) (te : TE) (Q : List V → Hp → Prop) (σ0 : St) (H1 : Hp) : Prop :=
  ∃ W : Nat → Nat → List V → St → Hp → Prop, (∃ m, W 0 m [] σ0 H1) ∧ ∀ i m ys σ H, W i m ys σ H → ys.length < sizeLine ∧
    ((J.stop i H ∧ Q ys H) ∨ (J.go i H ∧ ∃ (NY : St → V → Hp → Prop) (NN : St → Hp → Prop), (∀ σ' y H3, NY σ' y H3 → ∃ m', m' < m ∧ W (i + 1) m' (ys ++ [y]) σ' H3) ∧ (∀ σ' H2, NN σ' H2 → ∃ m', m' < m ∧ W (i + 1) m' ys σ' H2) ∧
      ∀ x H', J.yld i H x H' → g x σ H' fun σ2 H2 => tc σ2 H2 fun b H3 => if b = true then te σ2 H3 (NY σ2) else NN σ2 H3))
section
variable {X : Cx} {elt iter tg : Expr} {g : TG} {ifs : List Expr} {xs : List Str} {scope : Scope} {pos : Pos} {wi : TI} {tc : TT} {te : TE} {fr : List Str} {ix : List Nat}
def z7V (j : Nat) (wi : TI) (n : Nat) (ix : List Nat) (g : TG) (tc : TT) (te : TE) : TS := fun D σ H => wi σ H fun J H1 => z58 J g tc te (fun ys H2 => ∀ p, H2 p = none → D.nx (σ.set j (some (.ref p))) (upd H2 p (.lst ys))) (z8Q σ ix (List.replicate n none)) H1
end
end L2
namespace L2
open PySem
def z9H (σ : St) : Prop := ∃ o1 o2, σ = [o1, o2]
theorem z7w {K : PySem.W.Frag} {a b : Addr} {xs ys : List V} {te : TE} {Q : List V → Hp → Prop} {H : Hp} (hlen : xs.length = ys.length) (Pv : Nat → List V → Hp → Prop) (h0 : Pv 0 [] H) (hl : ∀ i zs H, i ≤ xs.length → Pv i zs H → SqT K H a xs ∧ SqL K H b ys ∧ zs.length < sizeLine)
    (hs : ∀ (i : Nat) x y zs H p, xs[i]? = some x → ys[i]? = some y → Pv i zs H → H p = none → te [some x, some y] (upd H p (.tup [x, y])) fun z H3 => z9H [some x, some y] ∧ Pv (i + 1) (zs ++ [z]) H3) (hd : ∀ zs H, Pv xs.length zs H → Q zs H) :
    z58 (Itz K a b) (zb6 K 2 (z5a (z4j 0) (z5a (z4j 1) zaU))) z5w te Q [none, none] H := by
  refine ⟨fun i m zs σ H => m = xs.length - i ∧ i ≤ xs.length ∧ z9H σ ∧ Pv i zs H, ⟨_, rfl, Nat.zero_le _, ⟨_, _, rfl⟩, h0⟩, ?_⟩;rintro i m zs σ H ⟨rfl, hi, ⟨o1, o2, rfl⟩, p⟩;obtain ⟨q1, q2, hz⟩ := hl i zs H hi p;refine ⟨hz, ?_⟩;by_cases hlt : i < xs.length
  · have hlt2 : i < ys.length := by omega
    refine .inr ⟨⟨xs, ys, xs[i], ys[i], q1, q2, by simp [hlt], by simp [hlt2]⟩, fun σ' y H3 => z9H σ' ∧ Pv (i + 1) (zs ++ [y]) H3, fun σ' H2 => False, fun σ' y H3 z => ⟨xs.length - (i + 1), by omega, rfl, hlt, z.1, z.2⟩, fun σ' H2 z => z.elim, fun x H' y => ?_⟩;obtain ⟨pp, u, v, rfl, hp, rfl, hu, hv⟩ := y;refine ⟨pp, [u, v], rfl, SqT.of zU, rfl, u, [v], rfl, v, [], rfl, rfl, ?_⟩;refine zab (A := te [some u, some v] (upd H pp (.tup [u, v])) fun y H3 => z9H [some u, some v] ∧ Pv (i + 1) (zs ++ [y]) H3) (B := False) ?_;exact hs i u v zs H pp (hu xs q1) (hv ys q2) p hp
  · have e : i = xs.length := by omega
    subst e;exact .inl ⟨⟨xs, ys, q1, q2, Nat.le_refl _⟩, hd zs H p⟩
end L2
namespace L2
open PySem
theorem zbc {X : Cx} {scope : Scope} {x y : Str} {fr : List Str} {ix : List Nat} {px py tp : Pos} {k : Nat} (hc : X.calm = true) (S : CompScG X scope [x, y] fr ix) (hx : scope.names.lookup x = some .local) (hy : scope.names.lookup y = some .local) (C : Addr) (cells : List (Str × Addr)) (s₀ : Shared) (H₀ : Hp) (ex : List Addr) (pins : List (Addr × Obj)) :
    PG (j9 X scope ([x, y] ++ fr) C cells s₀ H₀ ex pins) (.Tuple [.Name x px, .Name y py] k tp) (zb6 X.K 2 (z5a (z4j 0) (z5a (z4j 1) zaU))) := by
  have lx : (j9 X scope ([x, y] ++ fr) C cells s₀ H₀ ex pins).env.scope.names.lookup x = some .local := jQ (env := X.env) hx;have ly : (j9 X scope ([x, y] ++ fr) C cells s₀ H₀ ex pins).env.scope.names.lookup y = some .local := jQ (env := X.env) hy;exact zan (X := j9 X scope ([x, y] ++ fr) C cells s₀ H₀ ex pins) hc (z5J (yQ (i := 0) S.nd rfl (.inl lx) (.inr lx)) (z5J (yQ (i := 1) S.nd rfl (.inl ly) (.inr ly)) z9x))
end L2

namespace L2
open PySem PySem.Spec PyProof.Rows
abbrev tx (l : List Nat) : Str := ⟨l.toArray⟩
theorem yS {x y : Str} (h : x.cps.toList = y.cps.toList) : x = y := by
  cases x;cases y;simp only [Str.mk.injEq];exact Array.toList_inj.mp h
theorem z2W (x : Str) : tx x.cps.toList = x := yS rfl
theorem app_list (x y : Str) : (x ++ y).cps.toList = x.cps.toList ++ y.cps.toList := by
  show (x.cps ++ y.cps).toList = _
  simp
theorem len_list (x : Str) : x.length = x.cps.toList.length := by simp [Str.length]
theorem z0M (g : Nat → Bool) (l r : Bool) (x : Str) : (Txt.stripBy g l r x).cps.toList = (x.cps.toList.drop (stripLo g l x)).take (stripHi g r x (stripLo g l x) - stripLo g l x) := by
  rw [PyProof.Rows.stripBy_eq, StrLaws.strSub_toList]
theorem z0T {α : Type} {p : α → Bool} : ∀ {l : List α}, (∀ c ∈ l, p c = true) → l.takeWhile p = l
  | [], _ => rfl
  | a :: l, h => by rw [List.takeWhile_cons, if_pos (h a List.mem_cons_self), z0T fun c hc => h c (List.mem_cons_of_mem _ hc)]
theorem z7D {g : Nat → Bool} {x : Str} (h : ∀ c ∈ x.cps.toList, g c = true) : Txt.stripBy g true true x = Str.empty := by
  apply yS;rw [z0M];have : stripLo g true x = x.cps.toList.length := by
    show (x.cps.toList.takeWhile g).length = _
    rw [z0T h]
  rw [this, List.drop_length, List.take_nil]
  rfl
theorem z0K {α : Type} {p : α → Bool} : ∀ {l : List α} {c : α}, c ∈ l → p c = false → (l.takeWhile p).length < l.length
  | a :: l, c, hc, hp => by
    rw [List.takeWhile_cons];by_cases ha : p a = true
    · rw [if_pos ha];rcases List.mem_cons.mp hc with e | hc
      · subst e;rw [ha] at hp;cases hp
      · have := z0K hc hp;simp only [List.length_cons];omega
    · rw [if_neg ha];simp
theorem z0b {α : Type} (p : α → Bool) : ∀ l : List α, l.drop (l.takeWhile p).length = l.dropWhile p
  | [] => rfl
  | a :: l => by
    rw [List.takeWhile_cons, List.dropWhile_cons];by_cases ha : p a = true
    · rw [if_pos ha, if_pos ha];exact z0b p l
    · rw [if_neg ha, if_neg ha]
      rfl
theorem z6J {g : Nat → Bool} {x : Str} {c : Nat} (hc : c ∈ x.cps.toList) (hg : g c = false) : Txt.stripBy g true true x ≠ Str.empty := by
  intro e;have e2 := congrArg (fun z : Str => z.cps.toList.length) e;simp only [z0M, List.length_take, List.length_drop] at e2;have e3 : stripLo g true x = (x.cps.toList.takeWhile g).length := rfl;have h1 := z0K hc hg;have e4 : stripHi g true x (stripLo g true x) = x.length - ((x.cps.toList.drop (stripLo g true x)).reverse.takeWhile g).length := rfl;have hd : x.cps.toList.drop (stripLo g true x) = x.cps.toList.dropWhile g := by rw [e3, z0b]
  have hne : ∃ a r, x.cps.toList.dropWhile g = a :: r ∧ g a = false := by
    cases q : x.cps.toList.dropWhile g with
    | nil =>
      have := congrArg List.length (z0b g x.cps.toList);rw [q, List.length_drop] at this;simp at this;simp at h1;omega
    | cons a r => exact ⟨a, r, rfl, by
        have := List.head_dropWhile_not g (l := x.cps.toList) (by rw [q]; simp)
        simpa [q] using this⟩
  obtain ⟨a, r, q, ga⟩ := hne;have h2 : ((x.cps.toList.drop (stripLo g true x)).reverse.takeWhile g).length < (x.cps.toList.drop (stripLo g true x)).reverse.length := z0K (c := a) (by rw [hd, q]; simp) ga;rw [List.length_reverse, List.length_drop] at h2;have h3 : (Str.empty).cps.toList.length = 0 := rfl;rw [h3] at e2;rw [len_list] at e4;omega
theorem z3F (x y : Str) : decide (Txt.stripChars x y = Str.empty) = x.cps.toList.all fun c => y.cps.contains c := by
  by_cases h : ∀ c ∈ x.cps.toList, y.cps.contains c = true
  · rw [show Txt.stripChars x y = Str.empty from z7D h, decide_eq_true rfl, eq_comm, List.all_eq_true];exact h
  · have h' : ∃ c ∈ x.cps.toList, y.cps.contains c = false := by
      simpa using h
    obtain ⟨c, hc, hg⟩ := h';rw [decide_eq_false (show Txt.stripChars x y ≠ Str.empty from z6J hc hg), eq_comm, List.all_eq_false];exact ⟨c, hc, by rw [hg]; simp⟩
theorem z2l {g : Nat → Bool} {x : Str} {a b : List Nat} (e : x.cps.toList = a ++ b) (hb : ∀ c ∈ b, g c = true) (ha : ∀ c, a.getLast? = some c → g c = false) : Txt.stripBy g false true x = tx a := by
  apply yS;rw [z0M];have e0 : stripLo g false x = 0 := rfl;have e1 : stripHi g true x 0 = x.length - (x.cps.toList.reverse.takeWhile g).length := rfl;have e2 : x.cps.toList.reverse.takeWhile g = b.reverse := by
    rw [e, List.reverse_append, List.takeWhile_append_of_pos fun c hc => hb c (List.mem_reverse.mp hc)];have : a.reverse.takeWhile g = [] := by
      cases q : a.reverse with
      | nil => rfl
      | cons c r =>
        have hl : a.getLast? = some c := by rw [← List.head?_reverse, q]; rfl
        rw [List.takeWhile_cons, if_neg (by rw [ha c hl]; simp)]
    rw [this, List.append_nil]
  rw [e0, e1, e2, len_list, e, List.drop_zero, List.length_append, List.length_reverse, Nat.sub_zero, Nat.add_sub_cancel, List.take_left]
theorem z47 {g : Nat → Bool} {x : Str} {a b : List Nat} (e : x.cps.toList = a ++ b) (ha : ∀ c ∈ a, g c = true) (hb : ∀ c, b.head? = some c → g c = false) : Txt.stripBy g true false x = tx b := by
  apply yS;rw [z0M];have e1 : stripLo g true x = a.length := by
    show (x.cps.toList.takeWhile g).length = _
    rw [e, List.takeWhile_append_of_pos ha];have : b.takeWhile g = [] := by
      cases b with
      | nil => rfl
      | cons c r => rw [List.takeWhile_cons, if_neg (by rw [hb c rfl]; simp)]
    rw [this, List.append_nil]
  have e2 : stripHi g false x a.length = x.length := rfl;rw [e1, e2, len_list, e, List.drop_left, List.length_append, Nat.add_sub_cancel_left, List.take_length]
theorem kC (x : Str) (c : Nat) : Txt.startswith x ⟨#[c]⟩ = decide (x.cps.toList.head? = some c) := by
  have h := StrLaws.subAt_one x c 0;rw [Bool.eq_iff_iff]
  show ((decide (0 + (⟨#[c]⟩ : Str).length ≤ x.length) && Builtin.Str.subAt x ⟨#[c]⟩ 0) = true) ↔ _
  rw [Bool.and_eq_true, decide_eq_true_eq, decide_eq_true_eq, h, List.head?_eq_getElem?]
theorem z1y {x : Str} {c : Nat} {r : List Nat} (e : x.cps.toList = c :: r) : Txt.slice x (some 1) none = tx r := by
  have hl : x.length = r.length + 1 := by rw [len_list, e]; rfl
  rw [slice_from_eq (b := x.length) (by decide) (by omega) rfl];apply yS
  show (((x.cps.toList.drop (1 : Int).toNat).take ((x.length : Int) - 1).toNat).toArray).toList = r
  have e1 : ((x.length : Int) - 1).toNat = r.length := by omega
  rw [e1, e]
  show (r.take r.length).toArray.toList = r
  simp
theorem join_list (c : Nat) : ∀ (a : Str) (r : List Str), (Str.join ⟨#[c]⟩ (a :: r)).cps.toList = a.cps.toList ++ r.flatMap fun p => c :: p.cps.toList
  | a, [] => by
    show a.cps.toList = a.cps.toList ++ []
    rw [List.append_nil]
  | a, b :: r => by
    show (a ++ ⟨#[c]⟩ ++ Str.join ⟨#[c]⟩ (b :: r)).cps.toList = _
    rw [app_list, app_list, join_list c b r, List.flatMap_cons, List.append_assoc]
    rfl
theorem z8L {c : Nat} : ∀ {a b x y : List Nat}, c ∉ a → c ∉ b → a ++ c :: x = b ++ c :: y → a = b ∧ x = y
  | [], [], x, y, _, _, h => ⟨rfl, (List.cons.inj h).2⟩
  | [], d :: b, x, y, _, hb, h => absurd (List.mem_cons.mpr (.inl (List.cons.inj h).1)) hb
  | d :: a, [], x, y, ha, _, h => absurd (List.mem_cons.mpr (.inl (List.cons.inj h).1.symm)) ha
  | d :: a, e :: b, x, y, ha, hb, h => by
    have h1 := List.cons.inj h;have ih := z8L (fun m => ha (List.mem_cons_of_mem _ m)) (fun m => hb (List.mem_cons_of_mem _ m)) h1.2;exact ⟨by rw [h1.1, ih.1], ih.2⟩
theorem z8D {c : Nat} {a b y : List Nat} (ha : c ∉ a) (h : a = b ++ c :: y) : False := ha (by rw [h]; exact List.mem_append_right _ List.mem_cons_self)
theorem z5t {c : Nat} : ∀ {a b : Str} {r t : List Str}, (∀ p ∈ a :: r, c ∉ p.cps.toList) → (∀ p ∈ b :: t, c ∉ p.cps.toList) → Str.join ⟨#[c]⟩ (a :: r) = Str.join ⟨#[c]⟩ (b :: t) → a :: r = b :: t
  | a, b, [], [], _, _, h => by rw [show a = b from h]
  | a, b, [], q :: t, ha, hb, h => by
    have e := congrArg (fun z : Str => z.cps.toList) h;simp only [join_list, List.flatMap_cons, List.flatMap_nil, List.append_nil] at e;exact (z8D (ha a List.mem_cons_self) e).elim
  | a, b, p :: r, [], ha, hb, h => by
    have e := congrArg (fun z : Str => z.cps.toList) h;simp only [join_list, List.flatMap_cons, List.flatMap_nil, List.append_nil] at e;exact (z8D (hb b List.mem_cons_self) e.symm).elim
  | a, b, p :: r, q :: t, ha, hb, h => by
    have e := congrArg (fun z : Str => z.cps.toList) h;simp only [join_list, List.flatMap_cons] at e;have e2 := z8L (x := p.cps.toList ++ r.flatMap fun p => c :: p.cps.toList) (y := q.cps.toList ++ t.flatMap fun p => c :: p.cps.toList) (ha a List.mem_cons_self) (hb b List.mem_cons_self) e;have e3 : Str.join ⟨#[c]⟩ (p :: r) = Str.join ⟨#[c]⟩ (q :: t) := yS (by rw [join_list, join_list]; exact e2.2);rw [yS e2.1, z5t (fun z m => ha z (List.mem_cons_of_mem _ m)) (fun z m => hb z (List.mem_cons_of_mem _ m)) e3]
theorem z8l {c : Nat} {ps : List Str} (hne : ps ≠ []) (hp : ∀ p ∈ ps, c ∉ p.cps.toList) : Txt.split (Str.join ⟨#[c]⟩ ps) ⟨#[c]⟩ = ps := by
  have h1 := StrLaws.join_split (Str.join ⟨#[c]⟩ ps) ⟨#[c]⟩;have h2 := StrLaws.split_free (Str.join ⟨#[c]⟩ ps) c;have h3 := split_pos (Str.join ⟨#[c]⟩ ps) ⟨#[c]⟩;generalize Txt.split (Str.join ⟨#[c]⟩ ps) ⟨#[c]⟩ = qs at h1 h2 h3;cases qs with
  | nil => simp at h3
  | cons a r =>
    cases ps with
    | nil => exact absurd rfl hne
    | cons b t => exact z5t h2 hp h1
theorem zav : ∀ d : Nat, d < 10 → Builtin.Str.occurrences "0123456789" ⟨#[48 + d]⟩ 0 ("0123456789" : Str).length 1 = [d] := by decide +kernel
end L2

namespace L2
open PySem PySem.Spec PyProof.Rows
theorem yP.there {P : Program} {w : World} {H : Hp} {h : Heap} {a : Addr} {o : HO} (x : yP P w H h a o) : ∃ u, h.get? a = some u := by
  cases o with
  | lst xs => obtain ⟨_, _, _, _, e⟩ := x; exact ⟨_, e⟩
  | tup xs => obtain ⟨_, _, _, _, e, _⟩ := x; exact ⟨_, e⟩
  | dK kvs => obtain ⟨_, _, _, _, o, _, _, e, _⟩ := x; exact ⟨_, e⟩
  | dT kvs => obtain ⟨_, _, _, _, o, _, _, e, _⟩ := x; exact ⟨_, e⟩
  | set S n => obtain ⟨o, _, _, _, e, _⟩ := x; exact ⟨_, e⟩
  | ins C dx fs => obtain ⟨_, _, _, e, _⟩ := x; exact ⟨_, e⟩
  | own y => exact x
  | xd fs => obtain ⟨_, ⟨_, _, _, e, _⟩, _⟩ := x; exact ⟨_, e⟩
  | rng lo hi => obtain ⟨_, _, _, e⟩ := x; exact ⟨_, e⟩
  | frz ob u => obtain ⟨e, _⟩ := x; exact ⟨_, e⟩
  | tbl ps => exact ⟨_, (show h.get? a = some _ from x)⟩
  | met f y => exact ⟨_, (show h.get? a = some _ from x)⟩
  | ext φ => obtain ⟨_, e, _⟩ := x; exact e
def TrX (h B : Heap) (e C : Addr) (fl : Value) : Prop :=
  ∃ oe vs T oT ts, h.get? e = some oe ∧ oe.cls = .ref C ∧ oe.dict = none ∧ oe.data = .fields vs ∧ vs[1]? = some (.ref T) ∧ B.get? T = none ∧ T ≠ e ∧ h.get? T = some oT ∧ oT.data = .fields ts ∧ ts[3]? = some fl
theorem z7K (o : Obj) (f : Array Value → Array Value) : (Obj.mapFields f o).dict = o.dict := by
  obtain ⟨c, d, dt, sl⟩ := o;cases dt <;> rfl
section
variable {X : Cx} {pins : List (Addr × Obj)} {σ : St} {H : Hp} {s : Shared} {h' B : Heap} {b ea C : Addr} {E : XK} {e : Value}
def z2G (X : Cx) (pins : List (Addr × Obj)) (H : Hp) (b : Addr) : Prop := ((∃ o, X.s₀.heap.get? b = some o) ∧ b ∉ X.ex) ∨ (∃ u, H b = some u) ∨ ∃ p ∈ X.pn ++ pins, p.1 = b
theorem z2G.there (n : z2G X pins H b) (I : Inv X pins σ H s) : ∃ o, s.heap.get? b = some o := by
  rcases n with ⟨⟨o, e⟩, hx⟩ | ⟨u, e⟩ | ⟨p, hp, rfl⟩
  · exact I.base.there b o e hx
  · exact (I.hok b u e).there
  · exact ⟨_, (I.pin p hp).1⟩
theorem Inv.flown (I : Inv X pins σ H s) (keep : ∀ b o, s.heap.get? b = some o → b ∉ frs X.stack → z2G X pins H b → h'.get? b = some o) (up : s.heap.UpToSlots h') : Inv X pins σ H { s with heap := h' } := by
  have nofr : ∀ b o, X.s₀.heap.get? b = some o → b ∉ X.fs → b ∉ frs X.stack := fun b o e hb z => by
    rcases List.mem_cons.mp (I.stkSub b z) with q | q
    · exact Nat.ne_of_lt (Nat.lt_of_lt_of_le (Heap.lt_size e) I.ok.above) q
    · exact hb q
  have cellK : ∀ c v, s.heap.IsCell c v → h'.IsCell c v := fun c v ⟨o, ho, hd⟩ => by
    obtain ⟨sl, q⟩ := up c o ho fun vs z => by rw [hd] at z; cases z
    exact ⟨_, q, hd⟩
  refine ⟨I.ok, I.os, I.bare, ⟨fun b o e n hb hx => ?_, fun b o e n hb hx => ?_, I.base.free, fun b o e hx => ?_, I.base.tups, I.base.frzs, I.base.tbls⟩, ?_, fun x c e => ?_, I.free, I.freeC, fun p hp => ?_, fun b u e => ?_, I.len⟩
  · exact keep b o (I.base.keep b o e n hb hx) (nofr b o e hb) (.inl ⟨⟨o, e⟩, hx⟩)
  · obtain ⟨sl, e1⟩ := I.base.slot b o e n hb hx;obtain ⟨_, o2, e2, nf⟩ := I.funs.mem hb;rw [e1] at e2;cases e2;obtain ⟨sl2, e3⟩ := up b _ e1 nf;exact ⟨sl2, e3⟩
  · obtain ⟨o1, e1⟩ := I.base.there b o e hx;by_cases hb : b ∈ X.fs
    · obtain ⟨_, o2, e2, nf⟩ := I.funs.mem hb;rw [e1] at e2;cases e2;obtain ⟨sl2, e3⟩ := up b _ e1 nf;exact ⟨_, e3⟩
    · exact ⟨o1, keep b o1 e1 (nofr b o e hb) (.inl ⟨⟨o, e⟩, hx⟩)⟩
  · obtain ⟨m, hn, hl⟩ := I.loc;refine ⟨m, up.ns hn, fun i x v e1 e2 e3 => ?_⟩;obtain ⟨u, r, l⟩ := hl i x v e1 e2 e3;refine ⟨u, r, ?_⟩;rcases l with l | ⟨k, c, e, z⟩
    · exact .inl l
    · exact .inr ⟨k, c, e, cellK c _ z⟩
  · obtain ⟨v, z⟩ := I.cell x c e;exact ⟨v, cellK c v z⟩
  · obtain ⟨e, n, ne, nf, d⟩ := I.pin p hp;refine ⟨keep p.1 p.2 e (fun z => ?_) (.inr (.inr ⟨p, hp, rfl⟩)), n, ne, nf, d⟩;rcases List.mem_cons.mp (I.stkSub p.1 z) with q | q
    · exact ne q
    · exact nf q
  · refine (I.hok b u e).stay (fun c v hc q => ?_) (fun _ q => q) fun _ _ q => q
    have hu : ∃ u, H c = some u := by
      rcases hc with z | z
      · exact ⟨u, by rw [z]; exact e⟩
      · exact ⟨_, z⟩
    obtain ⟨u', hu'⟩ := hu;exact keep c v q (fun z => by rw [I.stkFree c z] at hu'; cases hu') (.inr (.inl ⟨u', hu'⟩))
structure Fly (X : Cx) (pins : List (Addr × Obj)) (H : Hp) (B : Heap) (ea C : Addr) (h : Heap) : Prop where
  st : B.StaysIn h
  ne : B.get? ea = none
  fr : h.FunFrames B X.stack
  tr : ∃ fl, TrX h B ea C fl
  cov : ∀ b o, h.get? b = some o → b ∉ frs X.stack → z2G X pins H b → B.get? b = some o
theorem Fly.move (I : Inv X pins σ H s) (F : Fly X pins H B ea C s.heap) (st : B.StaysIn h') (fr : h'.FunFrames B X.stack) (tr : ∃ fl, TrX h' B ea C fl) (up : s.heap.UpToSlots h') :
    Inv X pins σ H { s with heap := h' } ∧ Fly X pins H B ea C h' := by
  refine ⟨I.flown (fun b o e nf nd => st b o (F.cov b o e nf nd)) up, st, F.ne, fr, tr, fun b o e nf nd => ?_⟩;obtain ⟨o1, e1⟩ := nd.there I;have e2 := F.cov b o1 e1 nf nd;have e3 := st b o1 e2;rw [e] at e3;cases e3;exact e2
def yR (X : Cx) (pins : List (Addr × Obj)) (σ : St) (E : XK) (e : Value) (s : Shared) : Prop :=
  ∃ (ea C : Addr) (B : Heap) (H : Hp), e = .ref ea ∧ Inv X pins σ H s ∧ Fly X pins H B ea C s.heap ∧ E (.ref C) none H
theorem yR.unwish {W : Value → Shared → Prop} (h : yR (X.wish W) pins σ E e s) : yR X pins σ E e s := by
  obtain ⟨ea, C, B, H, rfl, I, F, q⟩ := h;exact ⟨ea, C, B, H, rfl, I.unwish, ⟨F.st, F.ne, F.fr, F.tr, F.cov⟩, q⟩
end
section
variable {M : Model} {A : Around} {E0 : Value → Shared → Prop} {s : Shared} {B : Heap} {l : List Env} {e C L : Addr} {fl : Value} {Q : Unit → Shared → Prop}
theorem z6v {f : Option Addr} (hkb : B.StaysIn s.heap) (hl : s.heap.FunFrames B l) (ht : TrX s.heap B e C fl)
    (h : ∀ h' fl', B.StaysIn h' → h'.FunFrames B l → TrX h' B e C fl' → s.heap.UpToSlots h' → Q () { s with heap := h' }) : wpAny M A (setFlight (.ref e) f) Q E0 s := by
  obtain ⟨oe, vs, T, oT, ts, he, hcls, hdn, hd, h1, hnT, hTe, hT, hdT, h3⟩ := ht;have z3 : 3 < ts.size := (Array.getElem?_eq_some_iff.mp h3).1;have oth : ∀ b, b ≠ T → (s.heap.update T (Obj.mapFields (·.setIfInBounds 3 (f.elim Value.none fun f => rawInt f)))).get? b = s.heap.get? b := fun b hb => Heap.get?_update_other _ _ (Ne.symm hb)
  have nrec : ∀ b o, s.heap.get? b = some o → (∀ vs, o.data ≠ .fields vs) → b ≠ T := fun b o hb hnf q => by
    subst q;rw [hT] at hb;cases hb;exact hnf ts hdT
  unfold setFlight;refine wpAny_bind (wpAny_field he hd h1 ?_);rw [if_pos (show (Value.ref T != Value.none) = true by simp)];refine wpAny_setField hT hdT z3 (h _ (f.elim Value.none fun f => rawInt f) (fun b o q => (oth b fun z => by rw [z, hnT] at q; cases q).trans (hkb b o q))
    (hl.of_keeps fun b o q nf => ⟨o, (oth b (nrec b o q nf)).trans q, rfl⟩) ?_ fun b o q nf => ⟨o.slots, (oth b (nrec b o q nf)).trans q⟩)
  exact ⟨oe, vs, T, _, _, (oth e (Ne.symm hTe)).trans he, hcls, hdn, hd, h1, hnT, hTe, Heap.get?_update_self _ hT (Obj.isFreed_of_fields (Obj.data_mapFields hdT _)), Obj.data_mapFields hdT _, by simp [z3]⟩
theorem entry_any {env : Env} {outer : List Env} {oe : Obj} {vs : Array Value} {head : Value} {hadNext : Bool} (hfr : A.frames = some (env :: outer)) (hl : s.heap.FunFrames B (env :: outer)) (hf : env.frame = some L)
    (he : s.heap.get? e = some oe) (hc : oe.cls = .ref C) (hdn : oe.dict = none) (hd : oe.data = .fields vs) (hsz : 1 < vs.size) (hkb : B.StaysIn s.heap) (hen : B.get? e = none)
    (h : ∀ h', B.StaysIn h' → h'.FunFrames B (env :: outer) → TrX h' B e C (rawInt L) → s.heap.UpToSlots h' → Q () { s with heap := h' }) :
    wpAny M A (do let fo ← frameOf env; let pl ← entryPlaceOf L hadNext; let tb ← EntryCells.newEntry head fo .none (rawInt L) .none pl; setField (.ref e) 1 tb) Q E0 s := by
  have nofr : e ∉ (env :: outer).filterMap (·.frame) := fun hm => by
    obtain ⟨_, o, ho, hnf⟩ := hl.mem hm;rw [he] at ho;cases ho;exact hnf vs hd
  refine wpAny_bind (wpAny_frameOf_fun hfr hl hf fun g1 hs1 => wpAny_bind (wpAny_entryPlaceOf fun pl hpl => ?_));unfold EntryCells.newEntry newFields;refine wpAny_bind (wpAny_newObj_type ?_ (hpl.sizeOk5 _ _ _ _ _));have he1 : g1.get? e = some oe := (hs1.2.1 e nofr).trans he;have kb1 : ∀ b o, B.get? b = some o → g1.get? b = some o := fun b o q => (hs1.2.1 b fun hm => by rw [(hl.mem hm).1] at q; cases q).trans (hkb b o q)
  generalize hTo : ({ cls := .type "traceback", dict := none, data := .fields ([head, .ref L, .none, rawInt L, .none] ++ (if pl.isEmpty then List.replicate 6 Value.none else pl)).toArray } : Obj) = oT;have dT : oT.data = .fields ([head, .ref L, .none, rawInt L, .none] ++ (if pl.isEmpty then List.replicate 6 Value.none else pl)).toArray := by rw [← hTo]
  have he2 := Heap.get?_push_of_some (h := g1) oT he1;have nTe : g1.objs.size ≠ e := Nat.ne_of_gt (Heap.lt_size he1);have keep : ∀ b o, b ≠ e → g1.get? b = some o → ((g1.push oT).update e (Obj.mapFields (·.setIfInBounds 1 (Value.ref g1.objs.size)))).get? b = some o := fun b o hb q => (Heap.get?_update_other _ _ (Ne.symm hb)).trans (Heap.get?_push_of_some _ q)
  have nrec : ∀ b o, s.heap.get? b = some o → (∀ vs, o.data ≠ .fields vs) → b ≠ e := fun b o hb hnf q => by
    subst q;rw [he] at hb;cases hb;exact hnf vs hd
  refine wpAny_setField (s := { s with heap := g1.push oT }) he2 hd hsz (h _ ?_ ?_ ?_ ?_)
  · exact fun b o q => keep b o (fun z => by rw [z, hen] at q; cases q) (kb1 b o q)
  · refine hl.of_keeps fun b o q nf => ?_
    obtain ⟨sl, q2⟩ := hs1.2.2 b o q;exact ⟨_, keep b _ (nrec b o q nf) q2, rfl⟩
  · have hd3 := Obj.data_mapFields hd (·.setIfInBounds 1 (Value.ref g1.objs.size));refine ⟨_, _, g1.objs.size, oT, _, Heap.get?_update_self _ he2 (Obj.isFreed_of_fields hd3), (Obj.cls_mapFields _ _).trans hc, (z7K _ _).trans hdn, hd3, by simp [hsz], ?_, nTe, (Heap.get?_update_other _ _ (Ne.symm nTe)).trans (Heap.get?_push_size g1 (by rw [← hTo]; rfl)), dT, ?_⟩
    · cases q : B.get? g1.objs.size with
      | none => rfl
      | some o => exact absurd (Heap.lt_size (kb1 _ o q)) (Nat.lt_irrefl _)
    · first | (simp; done) | (rcases hpl with rfl | ⟨_, _, _, _, _, _, _, rfl⟩ <;> simp)
  · intro b o q nf;obtain ⟨sl, q2⟩ := hs1.2.2 b o q;exact ⟨sl, keep b _ (nrec b o q nf) q2⟩
theorem z5S {env : Env} {outer : List Env} (hfr : A.frames = some (env :: outer)) (hl : s.heap.FunFrames B (env :: outer)) (hf : env.frame = some L) (hkb : B.StaysIn s.heap) (hen : B.get? e = none) (ht : TrX s.heap B e C fl)
    (h : ∀ h', B.StaysIn h' → h'.FunFrames B (env :: outer) → TrX h' B e C (rawInt L) → s.heap.UpToSlots h' → Q () { s with heap := h' }) : wpAny M A (noteFrame (.ref e) env) Q E0 s := by
  obtain ⟨oe, vs, T, oT, ts, he, hcls, hdn, hd, h1, hnT, hTe, hT, hdT, h3⟩ := id ht;unfold noteFrame;simp only [hf];refine wpAny_bind (wpAny_field he hd h1 ?_);rw [if_pos (show (Value.ref T != Value.none) = true by simp)];refine wpAny_bind (wpAny_field hT hdT h3 ?_);by_cases hfl : fl = rawInt L
  · rw [if_pos (by rw [hfl]; simp)];subst hfl;exact wpAny_pure (h s.heap hkb hl ht (.refl _))
  · have oth : ∀ b, b ≠ T → (s.heap.update T (Obj.mapFields (·.setIfInBounds 3 Value.none))).get? b = s.heap.get? b := fun b hb => Heap.get?_update_other _ _ (Ne.symm hb)
    have nrec : ∀ b o, s.heap.get? b = some o → (∀ vs, o.data ≠ .fields vs) → b ≠ T := fun b o hb hnf q => by
      subst q;rw [hT] at hb;cases hb;exact hnf ts hdT
    rw [if_neg (show ¬ ((fl == rawInt L) = true) from fun q => hfl (beq_iff_eq.mp q))];refine wpAny_bind (wpAny_setField hT hdT (Array.getElem?_eq_some_iff.mp h3).1 ?_);refine entry_any hfr (hl.of_keeps fun b o q nf => ⟨o, (oth b (nrec b o q nf)).trans q, rfl⟩) hf ((oth e (Ne.symm hTe)).trans he) hcls hdn hd (Array.getElem?_eq_some_iff.mp h1).1 (fun b o q => (oth b fun z => by rw [z, hnT] at q; cases q).trans (hkb b o q)) hen ?_;exact fun h' x1 x2 x3 x4 => h h' x1 x2 x3 fun b o q nf => x4 b o ((oth b (nrec b o q nf)).trans q) nf
theorem z5A {env env' : Env} {x : Value} (h : env'.frame = env.frame) : noteFrame x env' = noteFrame x env := by
  unfold noteFrame PySem.frameOf;rw [h]
end
section
variable {M : Model} {A : Around} {E0 : Value → Shared → Prop} {X : Cx} {pins : List (Addr × Obj)} {σ : St} {s : Shared} {E : XK} {e : Value}
theorem yR.flight {f : Option Addr} {Q : Unit → Shared → Prop} (h : yR X pins σ E e s) (k : ∀ h', yR X pins σ E e { s with heap := h' } → s.heap.UpToSlots h' → Q () { s with heap := h' }) : wpAny M A (setFlight e f) Q E0 s := by
  obtain ⟨ea, C, B, H, rfl, I, F, q⟩ := h;obtain ⟨fl, ht⟩ := F.tr;refine z6v F.st F.fr ht fun h' fl' st fr tr up => ?_
  obtain ⟨I', F'⟩ := F.move I st fr ⟨fl', tr⟩ up;exact k h' ⟨ea, C, B, H, rfl, I', F', q⟩ up
theorem yR.note {env : Env} {Q : Unit → Shared → Prop} (h : yR X pins σ E e s) (hA : A.frames = some X.stack) (hs : X.stack = X.env :: X.outer) (hf : X.env.frame = some X.env.locals) (he : env.frame = X.env.frame)
    (k : ∀ h', yR X pins σ E e { s with heap := h' } → s.heap.UpToSlots h' → Q () { s with heap := h' }) : wpAny M A (noteFrame e env) Q E0 s := by
  obtain ⟨ea, C, B, H, rfl, I, F, q⟩ := h;obtain ⟨fl, ht⟩ := F.tr;rw [z5A he];refine z5S (hs ▸ hA) (hs ▸ F.fr) hf F.st F.ne ht fun h' st fr tr up => ?_
  obtain ⟨I', F'⟩ := F.move I st (hs ▸ fr) ⟨_, tr⟩ up;exact k h' ⟨ea, C, B, H, rfl, I', F', q⟩ up
theorem yR.passOn {α : Type} {what : String} {env : Env} {Q : α → Shared → Prop} (h : yR X pins σ E e s) (k : ∀ h', yR X pins σ E e { s with heap := h' } → E0 e { s with heap := h' }) : wpAny M A (passOn what e env : Sem α) Q E0 s := by
  obtain ⟨ea, C, B, H, rfl, I, F, q⟩ := id h;obtain ⟨fl, oe, vs, T, oT, ts, he, hcls, hdn, hd, h1, hr⟩ := id F.tr;unfold PySem.passOn;refine wpAny_bind (wpAny_field he hd h1 ?_);rw [if_neg (show ¬ ((Value.ref T == Value.none) = true) by simp)]
  first
    | exact wpAny_bind (wpAny_pure (wpAny_bind (h.flight fun h' a _ => wpAny_throw (k h' a))))
    | exact wpAny_bind (h.flight fun h' a _ => wpAny_throw (k h' a))
end
def CXR (P : Program) (w : World) : CXT := fun outer H s E e s' => ∃ (ea C : Addr) (B : Heap) (H' : Hp), e = .ref ea ∧ s'.os = s.os ∧ AllBare s'.gens ∧ Un (frs outer) [] H H' s.heap s'.heap ∧ HOk P w H' s'.heap ∧
  B.StaysIn s'.heap ∧ B.get? ea = none ∧ s'.heap.FunFrames B outer ∧ (∃ fl, TrX s'.heap B ea C fl) ∧
  (∀ b o, s'.heap.get? b = some o → b ∉ frs outer → ((∃ o', s.heap.get? b = some o') ∨ ∃ u, H' b = some u) → B.get? b = some o) ∧ E (.ref C) none H'
section
variable {X : Cx} {pins : List (Addr × Obj)} {σ : St} {H : Hp} {s s' : Shared} {E : XK} {e : Value}
theorem z3j (I : Inv X pins σ H s) (h : CXR X.prog X.w X.stack H s E e s') : yR X pins σ E e s' := by
  obtain ⟨ea, C, B, H', rfl, os, bare, un, hok, st, ne, fr, tr, cov, q⟩ := h;refine ⟨ea, C, B, H', rfl, I.call' os un hok bare (fun b z => absurd z (by simp)), ⟨st, ne, fr, tr, fun b o e nf nd => cov b o e nf ?_⟩, q⟩;rcases nd with ⟨⟨o', e'⟩, hx⟩ | nd | ⟨p, hp, rfl⟩
  · exact .inl (I.base.there b o' e' hx)
  · exact .inr nd
  · exact .inl ⟨_, (I.pin p hp).1⟩
theorem z4v (hs : X.stack = X.env :: X.outer) (hf : X.env.frame = some X.env.locals) (hx : X.ex = []) (h : yR X pins σ E e s) : CXR X.prog X.w X.outer X.H₀ X.s₀ E e s := by
  obtain ⟨ea, C, B, H, rfl, I, F, q⟩ := h;have fr := F.fr;rw [hs] at fr;have hu : Un (frs X.outer) [] X.H₀ H X.s₀.heap s.heap := by
    have := I.base;rw [hx] at this;exact this
  refine ⟨ea, C, B, H, rfl, I.os, I.bare, hu, I.hok, F.st, F.ne, fr.2.2, F.tr, fun b o e nf nd => F.cov b o e (fun z => ?_) ?_, q⟩
  · rcases List.mem_cons.mp (I.stkSub b z) with z | z
    · subst z;rcases nd with ⟨o', e'⟩ | ⟨u, e'⟩
      · exact Nat.lt_irrefl _ (Nat.lt_of_lt_of_le (Heap.lt_size e') I.ok.above)
      · rw [I.free] at e';cases e'
    · exact nf z
  · rcases nd with nd | nd
    · exact .inl ⟨nd, by rw [hx]; simp⟩
    · exact .inr (.inl nd)
def z3w (X : Cx) (E : XK) : Prop := ∀ (pins : List (Addr × Obj)) (σ : St) (e : Value) (s : Shared), yR X pins σ E e s → X.xe e s
theorem z3w.passes (h : z3w X E) : z4O (CXR X.prog X.w) X E := fun pins σ H s e s' I hc => h pins σ e s' (z3j I hc)
def z90 (X : Cx) (E : XK) : Prop := ∀ (pins : List (Addr × Obj)) (σ : St) (H : Hp) (s : Shared) (h1 : Heap) (ea C : Addr) (args : List Value), Inv X pins σ H s → Heap.MadeExcOf s.heap h1 ea (.ref C) args → E (.ref C) none H → X.xe (.ref ea) { s with heap := h1 }
theorem z5I {M : Model} {A : Around} {E0 : Value → Shared → Prop} (hA : A.frames = some X.stack) (hs : X.stack = X.env :: X.outer) (hf : X.env.frame = some X.env.locals) (hx : X.ex = []) (h : yR X pins σ E e s) :
    wpAny M A (leaving X.env e) (fun _ s' => CXR X.prog X.w X.outer X.H₀ X.s₀ E e s') E0 s := by
  unfold leaving;exact wpAny_bind (h.note hA hs hf rfl fun h1 a1 _ => a1.flight fun h2 a2 _ => z4v hs hf hx a2)
theorem z6N {M : Model} {A : Around} {E0 : Value → Shared → Prop} {h1 : Heap} {ea C : Addr} {args : List Value} (hA : A.frames = some X.stack) (hs : X.stack = X.env :: X.outer) (hf : X.env.frame = some X.env.locals) (hx : X.ex = [])
    (I : Inv X pins σ H s) (hm : Heap.MadeExcOf s.heap h1 ea (.ref C) args) (q : E (.ref C) none H) : wpAny M A (leaving X.env (.ref ea)) (fun _ s' => CXR X.prog X.w X.outer X.H₀ X.s₀ E (.ref ea) s') E0 { s with heap := h1 } := by
  obtain ⟨t, he, htn, ht⟩ := hm.there;have hB : ∀ b o, (PySem.W.hideAll s.heap (frs X.stack)).get? b = some o → s.heap.get? b = some o := fun b o z => PySem.W.of_hideAll _ z
  have hen : (PySem.W.hideAll s.heap (frs X.stack)).get? ea = none := by
    cases z : (PySem.W.hideAll s.heap (frs X.stack)).get? ea with
    | none => rfl
    | some o =>
      have := hB _ _ z;rw [hm.new] at this;cases this
  have hl : h1.FunFrames (PySem.W.hideAll s.heap (frs X.stack)) X.stack :=
    (PySem.W.funFrames_hide I.stack fun env hv a ha => List.mem_filterMap.mpr ⟨env, hv, ha⟩).of_keeps fun b o hb _ => ⟨o, hm.keeps b o hb, rfl⟩
  unfold leaving;refine wpAny_bind ?_;unfold noteFrame;simp only [hf];refine wpAny_bind (wpAny_field (s := { s with heap := h1 }) he rfl (x := .none) rfl ?_);rw [if_neg (by decide)];refine entry_any (s := { s with heap := h1 }) (B := PySem.W.hideAll s.heap (frs X.stack)) (hs ▸ hA) (hs ▸ hl) hf he rfl rfl rfl (by simp) (fun b o z => hm.keeps b o (hB b o z)) hen ?_;intro h' st fr tr up;have up' : s.heap.UpToSlots h' := (Heap.UpToSlots.of_keeps hm.keeps).trans up;have I' : Inv X pins σ H { s with heap := h' } := I.flown (fun b o e nf _ => st b o (PySem.W.hideAll_get _ e nf)) up';have F' : Fly X pins H (PySem.W.hideAll s.heap (frs X.stack)) ea C h' := ⟨st, hen, hs ▸ fr, ⟨_, tr⟩, fun b o e nf nd => by
    obtain ⟨o1, e1⟩ := nd.there I;have e2 := PySem.W.hideAll_get _ e1 nf;have e3 := st b o1 e2;rw [e] at e3;cases e3;exact e2⟩
  have al : yR X pins σ E (.ref ea) { s with heap := h' } := ⟨ea, C, _, H, rfl, I', F', q⟩;exact al.flight fun h2 a2 _ => z4v hs hf hx a2
end
section
variable {P : Program} {w : World} {K : PySem.W.Frag} {mg : Str → Option Value} {base : Heap} {N : List Str} {qual : Str} {scope : Scope} {f : Addr} {cd : Value} {A : Around} {outer : List Env} {s : Shared} {H : Hp} {E : XK}
theorem z0E : z3w (z25 (CXR P w) P w K mg base N qual scope f cd A outer s H E) E := fun pins σ e s' h => by
  obtain ⟨_, _, _, _, _, I, _⟩ := id h;exact z5I (X := z25 (CXR P w) P w K mg base N qual scope f cd A outer s H E) I.ok.frames rfl rfl rfl h
theorem z05 : z90 (z25 (CXR P w) P w K mg base N qual scope f cd A outer s H E) E := fun pins σ H' s' h1 ea C args I hm q =>
  z6N (X := z25 (CXR P w) P w K mg base N qual scope f cd A outer s H E) I.ok.frames rfl rfl rfl I hm q
theorem z7i : PassesOwn (model P w) (z25 (CXR P w) P w K mg base N qual scope f cd A outer s H E).A (z25 (CXR P w) P w K mg base N qual scope f cd A outer s H E).env (z25 (CXR P w) P w K mg base N qual scope f cd A outer s H E).xe := PassesOwn.leaving
theorem Fun.okX {x qual : Str} {st : Stmt} {f : Addr} {fd : FuncData} {N ps : List Str} {k : Nat} {sp : Sp} (F : Fun K x qual st f fd) (S : FnScope N ps (zv st)) (len : ∀ vs H Q E, sp vs H Q E → vs.length = ps.length)
    (hbody : ∀ (cdv : Value) (A : Around) (outer : List Env) (s : Shared) (H : Hp) (vs : List V) (Q : VK) (E : XK), Room k (A.deeper (envOfC qual (zv st) s.heap.objs.size f cdv)) → sp vs H Q E →
      ∃ t, PSs (z25 (CXR P w) P w K mg base N qual (zv st) f cdv A outer s H E) (j6 st) t ∧ t { nx := fun _ H' => Q .non H', rt := Q } (start N vs) H) : FnOk P w K mg base (CXR P w) (k + 1) f fd ps sp := by
  obtain ⟨oc, od, kV, doc, pm, an, cdv, ct, osl, rfl, lk, hcd⟩ := F.ex;exact zai lk hcd S len fun A outer s H vs Q E hr hsp => hbody cdv A outer s H vs Q E hr hsp
end
structure KnX (P : Program) (w : World) (K : PySem.W.Frag) (mg : Str → Option Value) (base : Heap) (k : Nat) (x : Str) (ps : List Str) (sp : Sp) : Prop where
  ex : ∃ (f : Addr) (fd : FuncData), FnOk P w K mg base (CXR P w) k f fd ps sp ∧ mg x = some (.ref f) ∧ PySem.W.keepIn K (.ref f) = true ∧ Binds K fd ps []
section
variable {X : Cx} {k : Nat} {x : Str} {ps : List Str} {sp : Sp} {e : Expr} {es : List Expr} {t : TA} {p pos : Pos} {E : XK}
theorem z0C (C : KnX X.prog X.w X.K X.mg X.base k x ps sp) (hx : z3w X E) (hr : Room k X.A) (hg : Gl X x) (ha : PA X (e :: es) t)
    (hdb : (x == ("__debug__" : Str)) = false := by decide) (he : starEach (e :: es) X.env = (false, eval e X.env) :: starEach es X.env := by rfl) (hpl : (backTo pos (starEach es X.env)).any (·.1) = false := by rfl) :
    PE X (.Call (.Name x p) (e :: es) [] pos) (z8F sp [] E t) := by
  obtain ⟨f, fd, F, hm, hk, hb⟩ := C.ex;exact z7b F hr hg hm hk hb .nil hx.passes ha hdb he hpl
end
end L2

namespace L2
open PySem PySem.Spec PyProof.Rows
theorem z81 {K : PySem.W.Frag} {h : Heap} {C : Addr} {bmB : List Value} {newId : String} (X : K.In h) (q : PySem.W.excIn K C bmB newId = true) :
    ∃ bm N nm qn bs hdct sn sub ab col dd k0 k1 k2 k3 k5 mN, h.get? C = some (excClassObj nm qn C N bs bm hdct sn sub ab col dd k0 k1 k2 k3 k5 newId) ∧ h.Ns N mN ∧ mN "__init__" = none ∧ OwnTail h bmB bm := by
  unfold PySem.W.excIn at q;split at q
  · rename_i dd cd sl ho;split at q
    · rename_i C' bm k0 k1 k2 k3 n k5 hm hs;simp only [Bool.and_eq_true, beq_iff_eq, Bool.not_eq_true'] at q;obtain ⟨⟨⟨⟨⟨rfl, rfl⟩, hdel⟩, ht⟩, hok⟩, hni⟩ := q;obtain ⟨nm, bs, mro, ns, qn, hd, sn, sub, ab, col, del⟩ := cd;dsimp only at hm hdel hok hni;subst hm hdel;obtain ⟨l⟩ := sl;simp only at hs;subst hs;exact ⟨bm, ns, nm, qn, bs, hd, sn, sub, ab, col, dd, k0, k1, k2, k3, k5, _, X _ _ ho, .of_isNs (PySem.W.isNs_of_in X hok), PySem.W.nsMap_none_of_in X hok hni, PySem.W.tail_of_in X ht⟩
    · cases q
  · cases q
abbrev z24 : List Value := [.type "ValueError", .type "Exception", .type "BaseException", .type "object"]
section
variable {X : Cx} {E : XK} {x : Str} {C : Addr} {e : Expr} {es : List Expr} {t : TA} {np cpos pos : Pos}
def z62 (E : XK) (C : Addr) (t : TA) : TS := fun _ σ H => t σ H fun vs H1 => vs.length ≤ sizeLine ∧ E (.ref C) none H1
theorem z0x (hR : z90 X E) (hc : X.calm = true) (hg : Gl X x) (hm : X.mg x = some (.ref C)) (hC : PySem.W.excIn X.K C z24 "ValueError.__new__" = true) (ha : PA X (e :: es) t)
    (hdb : (x == ("__debug__" : Str)) = false := by decide) (he : starEach (e :: es) X.env = (false, eval e X.env) :: starEach es X.env := by rfl) (hpl : (backTo cpos (starEach es X.env)).any (·.1) = false := by rfl) :
    PS X (.Raise (some (.Call (.Name x np) (e :: es) [] cpos)) none pos) (z62 E C t) := by
  intro pins s σ H D I h;obtain ⟨bm, N, nm, qn, bs, hdct, sn, sub, ab, col, dd, k0, k1, k2, k3, k5, mN, hC, hN, hni, T⟩ := z81 I.mod.kin hC;refine wpAny_Raise_call_subU (C := C) (nm := nm) (q := qn) (N := N) (bs := bs) (bm := bm) (hdct := hdct) (sn := sn) (sub := sub) (ab := ab) (col := col) (dd := dd) (k0 := k0) (k1 := k1) (k2 := k2) (k3 := k3) (k5 := k5) PySem.F.excBase_ValueError (bmB := z24) (by decide +kernel) PySem.F.excBase_ValueError (mN := mN)
    (T.hasType PySem.F.excBase_ValueError.hasBase) (I.ok.hd hc) (by rw [he]; show (false || (backTo cpos (starEach es X.env)).any (·.1)) = false; rw [hpl]; rfl) hni (z26 I hg hm ⟨rfl, ?_⟩ hdb)
  have h2 := ha cpos pins s σ H _ I h;rw [he] at h2 ⊢;exact Calls.evalArgs_plain (wpAny_mono h2 (fun us s2 ⟨vs, H2, I2, r2, q2⟩ => ⟨rfl, by rw [← r2.length]; exact q2.1, I2.bk _ _ hC, hN.keeps I2.bk, T.keeps I2.bk, fun h' ea hm' => hR pins σ H2 s2 h' ea C us I2 hm' q2.2⟩) fun _ _ y => y)
end
section
variable {X : Cx} {e : Expr} {es : List Expr} {te : TE} {pos : Pos}
abbrev TJ := Str → St → Hp → (Str → Hp → Prop) → Prop
def PJ (X : Cx) (es : List Expr) (t : TJ) : Prop := ∀ (pins : List (Addr × Obj)) (s : Shared) (σ : St) (H : Hp) (acc : Str) (Q : Str → Hp → Prop), Inv X pins σ H s → t acc σ H Q →
  Joins (model X.prog X.w) X.A X.xe (evalEach es X.env) acc (fun out s1 => ∃ H1, Inv X pins σ H1 s1 ∧ Q out H1) s
def zb9 : TJ := fun acc _ H Q => Q acc H
def z9k (x : Str) (t : TJ) : TJ := fun acc σ H Q => (acc ++ x).length ≤ sizeLine ∧ t (acc ++ x) σ H Q
def zbQ (te : TE) (t : TJ) : TJ := fun acc σ H Q => te σ H fun v H1 => ∃ y, v = .str y ∧ y.length ≤ sizeLine ∧ (acc ++ y).length ≤ sizeLine ∧ t (acc ++ y) σ H1 Q
def zbF (te : TE) (t : TJ) : TJ := fun acc σ H Q => te σ H fun v H1 => ∃ y, v = .str y ∧ (reprText y).length ≤ sizeLine ∧ (acc ++ reprText y).length ≤ sizeLine ∧ t (acc ++ reprText y) σ H1 Q
theorem z6y : PJ X [] zb9 := fun _ _ _ H _ _ I h => ⟨H, I, h⟩
theorem z52 {x : Str} {j} {p : Pos} {t : TJ} (h : PJ X es t) : PJ X (.Constant (.str x) j p :: es) (z9k x t) := by
  intro pins s σ H acc Q I ht
  show wpAny _ _ (eval (.Constant (.str x) j p) X.env) _ _ s
  exact Calls.Constant_str ⟨x, _, rfl, ht.1, h pins _ σ H _ Q (I.tok _) ht.2⟩
theorem zaC {t : TJ} (he : PE X e te) (h : PJ X es t) : PJ X (.FormattedValue e (-1) none pos :: es) (zbQ te t) := by
  intro pins s σ H acc Q I ht
  show wpAny _ _ (eval (.FormattedValue e (-1) none pos) X.env) _ _ s
  refine wpAny_FormattedValue_plain (thn (he pins s σ H _ I ht) fun v s1 ⟨y', H1, I1, r1, y, e1, h1, h2, h3⟩ => ?_);subst e1;obtain ⟨tk, rfl⟩ := r1;exact formatField_str (fun t' tk => ⟨y, t', rfl, h2, h pins _ σ H1 _ Q (I1.tok _) h3⟩) h1
theorem z8M {t : TJ} (he : PE X e te) (h : PJ X es t) : PJ X (.FormattedValue e 114 none pos :: es) (zbF te t) := by
  intro pins s σ H acc Q I ht
  show wpAny _ _ (eval (.FormattedValue e 114 none pos) X.env) _ _ s
  refine wpAny_FormattedValue_repr (thn (he pins s σ H _ I ht) fun v s1 ⟨y', H1, I1, r1, y, e1, h1, h2, h3⟩ => ?_);subst e1;obtain ⟨tk, rfl⟩ := r1;exact wpAny_pyReprObj_str (formatField_str (fun t' tk => ⟨_, t', rfl, h2, h pins _ σ H1 _ Q (I1.tok _) h3⟩) h1) h1
def z8B (t : TJ) : TE := fun σ H Q => t Str.empty σ H fun out H1 => out.length ≤ sizeLine ∧ Q (.str out) H1
theorem z4I {v1 v2 : Expr} {t : TJ} (h : PJ X (v1 :: v2 :: es) t) : PE X (.JoinedStr (v1 :: v2 :: es) pos) (z8B t) := by
  intro pins s σ H Q I ht;refine wpAny_JoinedStr ?_;have h1 := h pins s σ H Str.empty _ I ht;have mono : ∀ (l : List (Sem Value)) (acc : Str) (s : Shared) (Q1 Q2 : Str → Shared → Prop), (∀ o s, Q1 o s → Q2 o s) → Joins (model X.prog X.w) X.A X.xe l acc Q1 s → Joins (model X.prog X.w) X.A X.xe l acc Q2 s := by
    intro l
    induction l with
    | nil => intro acc s Q1 Q2 k z; exact k _ _ z
    | cons a r ih =>
      intro acc s Q1 Q2 k z;exact thn z fun v s1 ⟨y, t, e1, h1, h2⟩ => ⟨y, t, e1, h1, ih _ _ _ _ k h2⟩
  exact mono _ _ _ _ _ (fun o s1 ⟨H1, I1, h1, q⟩ => ⟨h1, .str o, H1, I1.tok _, ⟨_, rfl⟩, q⟩) h1
end
theorem z4u : ∀ c, c < 256 → (Builtin.Str.reprChar 34 c).length ≤ 4 ∧ (Builtin.Str.reprChar 39 c).length ≤ 4 := by decide +kernel
def Asc (x : Str) : Prop := ∀ c ∈ x.cps.toList, c < 256
theorem repr_len {x : Str} (h : Asc x) : (reprText x).length ≤ 4 * x.length + 2 := by
  have hq : ∀ c, c < 256 → (Builtin.Str.reprChar (reprQuote x) c).length ≤ 4 := fun c hc => by
    unfold reprQuote;split
    · exact (z4u c hc).1
    · exact (z4u c hc).2
  rw [← reprLen_eq, ← Array.foldl_toList]
  show _ ≤ 4 * x.cps.size + 2
  rw [← Array.length_toList];have : ∀ (l : List Nat) (n : Nat), (∀ c ∈ l, c < 256) → l.foldl (fun n c => n + (Builtin.Str.reprChar (reprQuote x) c).length) n ≤ 4 * l.length + n := by
    intro l
    induction l with
    | nil => intro n _; simp
    | cons a r ih =>
      intro n hl;rw [List.foldl_cons, List.length_cons];have h1 := ih (n + (Builtin.Str.reprChar (reprQuote x) a).length) fun c hc => hl c (List.mem_cons_of_mem _ hc)
      have h2 := hq a (hl a List.mem_cons_self);omega
  exact this _ 2 h
section
variable {X : Cx} {e : Expr} {es : List Expr} {te : St → Hp → VK → XK → Prop} {pos : Pos}
abbrev TEX := St → Hp → VK → XK → Prop
abbrev TSX := Ends → XK → St → Hp → Prop
def PEX (X : Cx) (e : Expr) (t : TEX) : Prop := ∀ (pins : List (Addr × Obj)) (s : Shared) (σ : St) (H : Hp) (Q : VK) (E : XK), Inv X pins σ H s → t σ H Q E →
  wpAny (model X.prog X.w) X.A (eval e X.env) (EP X pins σ Q) (fun x s' => yR X pins σ E x s') s
def PSX (X : Cx) (st : Stmt) (t : TSX) : Prop := ∀ (pins : List (Addr × Obj)) (s : Shared) (σ : St) (H : Hp) (D : Ends) (E : XK), Inv X pins σ H s → t D E σ H →
  wpAny (model X.prog X.w) X.A (exec st X.env) (SP X pins D) (fun x s' => yR X pins σ E x s') s
def zbe (sp : Sp) (t : TA) : TEX := fun σ H Q E => t σ H fun vs H1 => sp (vs ++ []) H1 Q E
theorem z5x {k : Nat} {x : Str} {ps : List Str} {sp : Sp} {t : TA} {p : Pos} (C : KnX X.prog X.w X.K X.mg X.base k x ps sp) (hr : Room k X.A) (hg : Gl X x) (ha : PA X.nox (e :: es) t)
    (hdb : (x == ("__debug__" : Str)) = false := by decide) (he : starEach (e :: es) X.env = (false, eval e X.env) :: starEach es X.env := by rfl) (hpl : (backTo pos (starEach es X.env)).any (·.1) = false := by rfl) :
    PEX X (.Call (.Name x p) (e :: es) [] pos) (zbe sp t) := by
  intro pins s σ H Q E I h;obtain ⟨f, fd, F, hm, hk, hb⟩ := C.ex;refine wpAny_Call_Name_kw (z26 I hg hm ?_ hdb);refine PySem.W.callWith_K (h₀ := X.base) I.ok.mod.kin hk (wpAny_mono (ha pos pins s σ H _ (I.wish _) h) (fun us s1 ⟨vs, H1, I1, r, q⟩ => ⟨I1.unwish.kIn, ?_⟩) fun _ _ z => z.elim) he hpl;have J := I1.unwish;have r2 : jb (vs ++ []) (us ++ []) := r.append .nil;have hl : (us ++ []).length = ps.length := by rw [← r2.length]; exact F.len _ _ _ _ q
  refine wpAny_call (codeAny_mono (F.run X.A X.stack s1 H1 ⟨us, []⟩ (us ++ []) (vs ++ []) Q E hr J.env0 (hb s1 us J.kIn hl) r2 q) fun r s' hq => ?_);cases r with
  | error z => exact z3j J hq
  | ok fl =>
    cases fl with
    | ret u => exact J.after hq
    | next => exact hq.elim
    | brk => exact hq.elim
    | cont => exact hq.elim
def zcq (i : Nat) (te : TEX) : TSX := fun D E σ H => te σ H (fun v H1 => D.nx (σ.set i (some v)) H1) E
def zbS (te : TEX) : TSX := fun D E σ H => te σ H (fun _ H1 => D.nx σ H1) E
theorem z9Y {i : Nat} {x : Str} {te : TEX} {pos' : Pos} (hN : X.N.Nodup) (hi : X.N[i]? = some x) (hx : Loc X.env.scope x) (he : PEX X e te) (hs : swapsWith e (some (.Name x pos')) pos.line X.env = pure false := by rfl)
    (hf : X.fn x = true ∨ X.env.scope.names.lookup x = some .local := by first | exact .inl rfl | exact .inr rfl | assumption) : PSX X (.Assign [.Name x pos'] e pos) (zcq i te) := by
  intro pins s σ H D E I h;refine wpAny_Assign_Name (thn (he pins s σ H _ E I h) fun v s1 ⟨y, H1, I1, r1, q1⟩ => ?_) hs;exact z17 I1 hN hi hx r1 (fun s2 I2 => ⟨_, H1, I2, q1⟩) hf
theorem z8r {te : TEX} (he : PEX X e te) (hs : swapsWith e none pos.line X.env = pure false := by rfl) : PSX X (.Expr e pos) (zbS te) := by
  intro pins s σ H D E I h;exact wpAny_Expr_any (thn (he pins s σ H _ E I h) fun v s1 ⟨x, H1, I1, r1, q1⟩ => ⟨σ, H1, I1, q1⟩) I.quiet hs
end
def ExcAt (ea C : Addr) (h : Heap) : Prop := ∃ o vs, h.get? ea = some o ∧ o.cls = .ref C ∧ o.dict = none ∧ o.data = .fields vs
theorem ExcAt.keeps {ea C : Addr} {h1 h2 : Heap} (x : ExcAt ea C h1) (k : ∀ o, h1.get? ea = some o → h2.get? ea = some o) : ExcAt ea C h2 := by
  obtain ⟨o, vs, e, r⟩ := x;exact ⟨o, vs, k o e, r⟩
end L2

namespace L2
open PySem PySem.Spec PyProof.Rows
section
variable {X : Cx} {pins : List (Addr × Obj)} {σ : St} {H : Hp} {s : Shared} {B : Heap} {ea C : Addr}
theorem Fly.nofr (F : Fly X pins H B ea C s.heap) : ea ∉ frs X.stack := fun z => by
  obtain ⟨_, o, ho, hnf⟩ := F.fr.mem z;obtain ⟨fl, oe, vs, T, oT, ts, he, hc, hdn, hd, _⟩ := F.tr;rw [he] at ho;cases ho;exact hnf vs hd
theorem Fly.noneed (F : Fly X pins H B ea C s.heap) : ¬ z2G X pins H ea := fun z => by
  obtain ⟨fl, oe, vs, T, oT, ts, he, _⟩ := F.tr;have := F.cov ea oe he F.nofr z;rw [F.ne] at this;cases this
theorem Inv.caught (I : Inv X pins σ H s) (F : Fly X pins H B ea C s.heap) : H ea = none ∧ Inv X pins σ (upd H ea (.ext (ExcAt ea C))) s := by
  have hn : H ea = none := by
    cases q : H ea with
    | none => rfl
    | some u => exact (F.noneed (.inr (.inl ⟨u, q⟩))).elim
  obtain ⟨fl, oe, vs, T, oT, ts, he, hc, hdn, hd, _⟩ := F.tr;refine ⟨hn, I.ok, I.os, I.bare, ⟨I.base.keep, I.base.slot, fun b o e n hx => ?_, I.base.there, fun b xs q => ?_, fun b o u q => ?_, fun b ps q => ?_⟩, I.loc, I.cell, ?_, fun x c e => ?_, fun p hp => ?_, fun b u e => ?_, I.len⟩
  · have hb : b ≠ ea := fun z => by
      subst z;exact F.noneed (.inl ⟨⟨o, e⟩, hx⟩)
    rw [zO hb];exact I.base.free b o e n hx
  · have q2 := I.base.tups b xs q;rw [zO (zy q2 hn)];exact q2
  · have q2 := I.base.frzs b o u q;rw [zO (zy q2 hn)];exact q2
  · obtain ⟨more, q2⟩ := I.base.tbls b ps q;exact ⟨more, by rw [zO (zy q2 hn)]; exact q2⟩
  · rw [zO ?_]
    · exact I.free
    · intro z;obtain ⟨m, ⟨o, es, ep, ho, hdd, _⟩, _⟩ := I.loc;rw [z, he] at ho;cases ho;rw [hd] at hdd;cases hdd
  · rw [zO ?_]
    · exact I.freeC x c e
    · intro z;obtain ⟨v, o, ho, hdd⟩ := I.cell x c e;rw [z, he] at ho;cases ho;rw [hd] at hdd;cases hdd
  · obtain ⟨e, n, ne, nf, d⟩ := I.pin p hp;exact ⟨e, by rw [zO (fun z => F.noneed (.inr (.inr ⟨p, hp, z⟩)))]; exact n, ne, nf, d⟩
  · by_cases hb : b = ea
    · subst hb;rw [zU] at e;cases e;exact ⟨⟨oe, vs, he, hc, hdn, hd⟩, ⟨oe, he⟩, fun h1 h2 x k => x.keeps k⟩
    · rw [zO hb] at e;exact (I.hok b u e).stay (fun _ _ _ q => q) (fun c q => by rw [zO (zy q hn)]; exact q) fun c xs q => by rw [zO (zy q hn)]; exact q
theorem Inv.gone {j : Nat} {n : Str} {h' : Heap} {v : Option Value} {m : Str → Option Value} {t' : Nat} (I : Inv X pins σ H s) (hN : X.N.Nodup) (hj : X.N[j]? = some n) (hn : X.env.scope.names.lookup n = some .local) (hm : s.heap.Ns X.env.locals m)
    (h1 : h'.Ns X.env.locals fun x => if x = n then v else m x) (hs : Heap.SameBut X.env.locals s.heap h') : Inv X pins (σ.set j none) H { s with heap := h', toks := t' } := by
  obtain ⟨m0, hm0, hl⟩ := I.loc;have em : m0 = m := by
    obtain ⟨o, es, ep, ho, hd, hk, hf⟩ := hm;obtain ⟨o', es', ep', ho', hd', hk', hf'⟩ := hm0;rw [ho] at ho';cases ho';rw [hd] at hd';cases hd'
    funext x
    rw [← hf, ← hf']
  subst em;obtain ⟨oL, _, _, hoL, _⟩ := id hm0;have neL : ∀ b o, X.s₀.heap.get? b = some o → b ≠ X.env.locals := fun b o e => Nat.ne_of_lt (Nat.lt_of_lt_of_le (Heap.lt_size e) I.ok.above)
  have hiσ : j < σ.length := by rw [I.len]; exact (List.getElem?_eq_some_iff.mp hj).1
  refine ⟨I.ok, I.os, I.bare, ⟨fun b o e n hb hx => ?_, fun b o e n hb hx => ?_, I.base.free, fun b o e hx => ?_, I.base.tups, I.base.frzs, I.base.tbls⟩, ⟨_, h1, fun i y w e1 e2 e3 => ?_⟩, fun y c e => ?_, I.free, I.freeC, fun p hp => ?_, fun b ob e => ?_, by simpa using I.len⟩
  · exact (hs.2 b (neL b o e)).trans (I.base.keep b o e n hb hx)
  · obtain ⟨sl, e1⟩ := I.base.slot b o e n hb hx;exact ⟨sl, (hs.2 b (neL b o e)).trans e1⟩
  · obtain ⟨o', e1⟩ := I.base.there b o e hx;exact ⟨o', (hs.2 b (neL b o e)).trans e1⟩
  · by_cases hij : i = j
    · subst hij;rw [List.getElem?_set_self hiσ] at e2;cases e2
    · rw [List.getElem?_set_ne (Ne.symm hij)] at e2;obtain ⟨u, r, q⟩ := hl i y w e1 e2 e3;refine ⟨u, r, ?_⟩;rcases q with ⟨k, e⟩ | ⟨k, c, e, z⟩
      · have : y ≠ n := fun e => hij (z3A hN e1 (e ▸ hj))
        exact .inl ⟨k, by simp [this, e]⟩
      · exact .inr ⟨k, c, e, z.sameBut hs (I.cne y c e)⟩
  · obtain ⟨w', z⟩ := I.cell y c e;exact ⟨w', z.sameBut hs (I.cne y c e)⟩
  · obtain ⟨e, n, ne, nf, d⟩ := I.pin p hp;exact ⟨(hs.2 p.1 ne).trans e, n, ne, nf, d⟩
  · refine (I.hok b ob e).stay (fun c w' hc q => (hs.2 c ?_).trans q) (fun _ q => q) fun _ _ q => q
    rintro rfl;rcases hc with rfl | hc
    · rw [I.free] at e; cases e
    · rw [I.free] at hc; cases hc
abbrev z23 (X : Cx) (ea : Addr) : Cx := { X with A := X.A.mark (some (.ref ea)), calm := false, xe := fun _ _ => False }
theorem Inv.suite (I : Inv X pins σ H s) (ea : Addr) : Inv (z23 X ea) pins σ H s :=
  ⟨⟨I.ok.mod, I.ok.kind, I.ok.glob, I.ok.blt, I.ok.above, I.ok.inj, I.ok.has, I.ok.cab, (fun z => by cases z), I.ok.frames, I.ok.stk, I.ok.exf, I.ok.bs, I.ok.bsz, I.ok.noex, I.ok.exfs, I.ok.funs, I.ok.frf⟩, I.os, I.bare, I.base, I.loc, I.cell, I.free, I.freeC, I.pin, I.hok, I.len⟩
theorem Inv.unsuite (J : Inv (z23 X ea) pins σ H s) (ok : X.Ok) : Inv X pins σ H s := ⟨ok, J.os, J.bare, J.base, J.loc, J.cell, J.free, J.freeC, J.pin, J.hok, J.len⟩
end
def zcr (tb : TSX) (ts : TS) (K : PySem.W.Frag) (Cb : Addr) (j : Nat) : TS := fun D σ H => tb D (fun c _ H1 => ∃ C, c = .ref C ∧ PySem.W.exmOne K (.ref C) (.ref Cb) = some true ∧ ∀ ea, H1 ea = none →
  ts { nx := fun σ' H' => D.nx (σ'.set j none) H', rt := D.rt, bk := fun σ' H' => D.bk (σ'.set j none) H', ct := fun σ' H' => D.ct (σ'.set j none) H' } (σ.set j (some (.ref ea))) (upd H1 ea (.ext (ExcAt ea C)))) σ H
section
variable {X : Cx}
theorem z8W {st b0 : Stmt} {suite : List Stmt} {tb : TSX} {ts : TS} {cn n : Str} {cp hpos pos : Pos} {Cb : Addr} {j : Nat} (hst : X.stack = X.env :: X.outer) (hfm : X.env.frame = some X.env.locals) (hb : PSX X st tb) (hg : Gl X cn) (hm : X.mg cn = some (.ref Cb))
    (hN : X.N.Nodup) (hj : X.N[j]? = some n) (hn : X.env.scope.names.lookup n = some .local) (hs : ∀ ea, PSs (z23 X ea) (b0 :: suite) ts) (hd : (cn == ("__debug__" : Str)) = false := by decide) :
    PS X (.Try [st] [.ExceptHandler (some (.Name cn cp)) (some n) (b0 :: suite) hpos] [] [] pos) (zcr tb ts X.K Cb j) := by
  intro pins s σ H D I h;rw [arm_exec_Try];refine wpAny_bind (wpAny_standAt (wpAny_tryStmt_except ?_));refine wpAny_execs_cons (wpAny_mono (hb pins s σ H D _ I h) (fun f s1 q => ?_) fun e s1 al => ?_)
  · cases f with
    | next => exact wpAny_execs_nil (wpAny_execs_nil q)
    | ret v => exact q
    | brk => exact q
    | cont => exact q
  · refine al.note (X := X) I.ok.frames hst hfm rfl fun h2 a2 _ => a2.flight fun h3 a3 _ => ?_
    obtain ⟨ea, C, B, H3, rfl, I3, F3, C', ec, hex, hk⟩ := a3;cases ec;have hnb : (Value.ref ea) ≠ byPass := by intro q; cases q
    refine wpAny_handleBy_cons (codeAny_handlers_test ?_) hnb;refine z26 (X := z23 X ea) (I3.suite ea) hg hm ?_ hd;obtain ⟨fl, oe, vs, T, oT, ts', he, hc, hdn, hdd, _⟩ := id F3.tr;have LT : PySem.W.Looks (model X.prog X.w) h3 (typeOf (.ref ea)) (.ref C) := hc ▸ (PySem.W.Looks.ld he).andThen .now;refine (PySem.W.exm_one I3.kIn LT hex).here ?_;refine codeAny_handlers_suite_as ?_;have a3' : yR X pins σ (fun c _ H1 => c = .ref C ∧ H1 = H3) (.ref ea) _ := ⟨ea, C, B, H3, rfl, I3, F3, rfl, rfl⟩;refine a3'.flight fun h4 a4 _ => ?_
    obtain ⟨ea', C4, B4, H4, e4, I4, F4, c4, rfl⟩ := a4;cases e4;cases c4;obtain ⟨hn4, I5⟩ := I4.caught F4;refine z17 I5 hN hj (.inl hn) (show RelV (.ref ea) (.ref ea) from rfl) (fun s6 I6 => ?_) (.inr hn);refine wpAny_mono (hs ea pins s6 _ _ _ (I6.suite ea) (hk ea hn4)) (fun f s7 q => ?_) fun _ _ z => z.elim
    have fin : ∀ {σ' : St} {H' : Hp}, Inv (z23 X ea) pins σ' H' s7 → (∀ s8, Inv X pins (σ'.set j none) H' s8 → SP X pins D f s8) →
        wpAny (model X.prog X.w) X.A (do bindName X.env n .none; unbindBehindTheSuite X.env n hpos) (fun _ s8 => SP X pins D f s8) X.xe s7 := fun {σ' H'} J k => by
      have J' := J.unsuite I.ok;obtain ⟨m, hm0, _⟩ := J'.loc;refine wpAny_nameGoes_keeps hn hm0 (by rw [I.ok.kind]; rfl) fun h8 v h1 hs8 => k _ (J'.gone hN hj hn hm0 h1 hs8)
    cases f with
    | next => obtain ⟨σ', H', J, q⟩ := q; exact fin J fun s8 J8 => ⟨_, H', J8, q⟩
    | brk => obtain ⟨σ', H', J, q⟩ := q; exact fin J fun s8 J8 => ⟨_, H', J8, q⟩
    | cont => obtain ⟨σ', H', J, q⟩ := q; exact fin J fun s8 J8 => ⟨_, H', J8, q⟩
    | ret u => obtain ⟨v, σ', H', J, r, q⟩ := q; exact fin J fun s8 J8 => ⟨v, _, H', J8, r, q⟩
end
end L2

namespace L2
open PySem PySem.Spec PyProof.Rows
abbrev z4D (X : Cx) (scope : Scope) (NY : List Str) (C : Addr) (cells : List (Str × Addr)) (s₀ : Shared) (H₀ : Hp) (ex : List Addr) (pins : List (Addr × Obj)) (E : XK) : Cx :=
  (j9 X scope NY C cells s₀ H₀ ex pins).wish fun e s' => ∃ pb σb, yR (j9 X scope NY C cells s₀ H₀ ex pins) pb σb E e s'
theorem z6a {X : Cx} {scope : Scope} {NY : List Str} {C : Addr} {cells : List (Str × Addr)} {s₀ : Shared} {H₀ : Hp} {ex : List Addr} {pins : List (Addr × Obj)} {E : XK} : z3w (z4D X scope NY C cells s₀ H₀ ex pins E) E := fun pb σb e s h => ⟨pb, σb, h.unwish⟩
theorem z3d {h h' B : Heap} {C : Addr} (k : ∀ b o, b ≠ C → h.get? b = some o → h'.get? b = some o) : ∀ {l : List Env}, C ∉ frs l → h.FunFrames B l → h'.FunFrames B l
  | [], _, _ => trivial
  | env :: r, hC, ⟨hk, ⟨L, o, hf, hn, ho, hd⟩, hr⟩ => by
    have hfr : frs (env :: r) = L :: frs r := by unfold frs; rw [List.filterMap_cons, hf]
    rw [hfr] at hC;exact ⟨hk, ⟨L, o, hf, hn, k L o (fun z => hC (by rw [z]; exact List.mem_cons_self)) ho, hd⟩, z3d k (fun z => hC (List.mem_cons_of_mem _ z)) hr⟩
section
variable {X : Cx} {pins : List (Addr × Obj)} {σ : St} {H : Hp} {s : Shared} {scope : Scope} {NY : List Str} {fp : List Addr}
theorem zaa {cells : List (Str × Addr)} {pb : List (Addr × Obj)} {σb : St} {e : Value} {s8 : Shared} {E : XK} {R : Result → Shared → Prop} (hst : X.stack = X.env :: X.outer) (hfm : X.env.frame = some X.env.locals) (hx : z3w X E) (I : Inv X pins σ H s) (hfp : ∀ b ∈ fp, z19 X pins H b)
    (al : yR (j9 X scope NY (s.heap.push zP).objs.size cells s H fp pins) pb σb E e s8)
    (hR : ∀ s', (∃ m, s'.heap.Ns (s.heap.push zP).objs.size m ∧ ∀ h', Heap.SameBut (s.heap.push zP).objs.size s'.heap h' → ∀ cenv : Env, cenv.locals = (s.heap.push zP).objs.size → wpAny (model X.prog X.w) X.A (passOn "comprehension.variables-let-go" e cenv : Sem Value) (fun _ _ => False) X.xe { s' with heap := h' }) → R (.error e) s') :
    notedBy (model X.prog X.w) X.A (compEnvC scope cells (s.heap.push zP).objs.size X.env) (fun e s' => R (.error e) s') e s8 := by
  obtain ⟨ea, Ce, B, H', rfl, Ib, Fb, q⟩ := al;have z1 : (s.heap.push zP).objs.size = s.heap.objs.size + 1 := Heap.size_push ..;generalize hCe : (s.heap.push zP).objs.size = C at Ib Fb hR z1 ⊢;have Ix : Inv X pins σ H' s8 := I.call' (ch := fp) Ib.os Ib.base Ib.hok Ib.bare fun b hb => let f := hfp b hb; ⟨f.2.2.2.1, f.2.1, f.2.2.2.2.1, f.2.2.2.2.2⟩
  have ltC : ∀ b o, s.heap.get? b = some o → b ≠ C := fun b o e z => by
    have := Heap.lt_size e;rw [z, z1] at this;exact Nat.lt_irrefl _ (Nat.lt_of_succ_lt this)
  have needC : ∀ b, z2G X pins H' b → b ≠ C := fun b nd => by
    rcases nd with ⟨⟨o, e⟩, hx⟩ | ⟨u, e⟩ | ⟨p, hp, rfl⟩
    · obtain ⟨o', e'⟩ := I.base.there b o e hx;exact ltC b o' e'
    · intro z;have : H' C = none := Ib.free;rw [z, this] at e;cases e
    · exact ltC _ _ (I.pin p hp).1
  have needX : ∀ b, z2G X pins H' b → z2G (j9 X scope NY C cells s H fp pins) pb H' b := fun b nd => by
    rcases nd with ⟨⟨o, e⟩, hx⟩ | nd | ⟨p, hp, rfl⟩
    · refine .inl ⟨I.base.there b o e hx, fun z => ?_⟩;rcases (hfp b z).2.2.2.1 with z2 | z2
      · exact hx z2
      · exact Nat.lt_irrefl _ (Nat.lt_of_lt_of_le (Heap.lt_size e) z2)
    · exact .inr (.inl nd)
    · exact .inr (.inr ⟨p, List.mem_append_left _ hp, rfl⟩)
  have hsub : ∀ b o, (PySem.W.hideAll B [C]).get? b = some o → B.get? b = some o := fun b o z => PySem.W.of_hideAll _ z
  have hnone : ∀ b, B.get? b = none → (PySem.W.hideAll B [C]).get? b = none := fun b z => by
    cases w : (PySem.W.hideAll B [C]).get? b with
    | none => rfl
    | some o => rw [hsub b o w] at z; cases z
  have hBC : (PySem.W.hideAll B [C]).get? C = none := PySem.W.hideAll_none _ (List.mem_singleton.mpr rfl);have Cfr : C ∉ frs X.stack := fun z => by
    obtain ⟨_, o, ho, _⟩ := I.stack.mem z;exact ltC C o ho rfl
  have Fx : Fly X pins H' (PySem.W.hideAll B [C]) ea Ce s8.heap := by
    refine ⟨fun b o z => Fb.st b o (hsub b o z), hnone _ Fb.ne, PySem.W.funFrames_base (fun b o z => hsub b o z) Fb.fr, ?_, fun b o e nf nd => PySem.W.hideAll_get _ (Fb.cov b o e nf (needX b nd)) fun z => needC b nd (List.mem_singleton.mp z)⟩;obtain ⟨fl, oe, vs, T, oT, ts, a1, a2, a3, a4, a5, a6, a7⟩ := Fb.tr;exact ⟨fl, oe, vs, T, oT, ts, a1, a2, a3, a4, a5, hnone _ a6, a7⟩
  obtain ⟨m, hm, _⟩ := Ib.loc;obtain ⟨fl, ht⟩ := Fx.tr;unfold notedBy;rw [z5A (env := X.env) (show (compEnvC scope cells C X.env).frame = X.env.frame from rfl)];refine z5S (hst ▸ I.ok.frames) (hst ▸ Fx.fr) hfm Fx.st Fx.ne ht fun h' st fr tr up => ?_
  obtain ⟨I9, F9⟩ := Fx.move Ix st (hst ▸ fr) ⟨_, tr⟩ up;have hm9 : h'.Ns C m := up.ns hm;refine hR _ ⟨m, hm9, fun h2 sb cenv _ => ?_⟩;have kb : ∀ b o, b ≠ C → h'.get? b = some o → h2.get? b = some o := fun b o hb e => (sb.2 b hb).trans e
  have nC : H' C = none := Ib.free;have I10 : Inv X pins σ H' { s8 with heap := h2 } := Inv.turned (s := { s8 with heap := h' }) (h' := h2) (it := C) (t' := s8.toks) I9 kb nC (by rw [z1]; exact Nat.ne_of_gt (Nat.lt_succ_of_lt I.lt)) (.inr (by rw [z1]; exact Nat.le_succ_of_le I.sz)) (fun x c e => by
    obtain ⟨v, o, ho, _⟩ := I.cell x c e;exact ltC c o ho) fun p hp => ltC _ _ (I.pin p hp).1
  have dC : ∀ o vs, h'.get? C = some o → o.data ≠ .fields vs := fun o vs e z => by
    obtain ⟨o', es, ep, ho, hd, _⟩ := hm9;rw [e] at ho;cases ho;rw [z] at hd;cases hd
  have F10 : Fly X pins H' (PySem.W.hideAll B [C]) ea Ce h2 := by
    refine ⟨fun b o z => kb b o (fun w => by rw [w, hBC] at z; cases z) (F9.st b o z), F9.ne, z3d kb Cfr F9.fr, ?_, fun b o e nf nd => F9.cov b o ((sb.2 b (needC b nd)).symm.trans e) nf nd⟩;obtain ⟨fl, oe, vs, T, oT, ts, a1, a2, a3, a4, a5, a6, a7, a8, a9, a10⟩ := F9.tr;exact ⟨fl, oe, vs, T, oT, ts, kb _ _ (fun w => dC oe vs (w ▸ a1) a4) a1, a2, a3, a4, a5, a6, a7, kb _ _ (fun w => dC oT ts (w ▸ a8) a9) a8, a9, a10⟩
  have al : yR X pins σ E (.ref ea) { s8 with heap := h2 } := ⟨ea, Ce, _, H', rfl, I10, F10, q⟩;exact al.passOn fun h3 a3 => hx _ _ _ _ a3
end
section
variable {X : Cx} {elt iter tg : Expr} {g : TG} {ifs : List Expr} {xs : List Str} {scope : Scope} {pos : Pos} {wi : TI} {tc : TT} {te : TE} {fr : List Str} {ix : List Nat}
theorem z6o {pins : List (Addr × Obj)} {σ : St} {H : Hp} {s : Shared} {fp : List Addr} {it : Addr} {tn : Nat → Heap → Prop} {J : It} {R : Result → Shared → Prop} {Q : List V → Hp → Prop} {E : XK} (hc : X.calm = true) (S : CompScG X scope xs fr ix)
    (hel : ∀ C cells s₀ H₀ ex pins, PE (z4D X scope (xs ++ fr) C cells s₀ H₀ ex pins E) elt te) (hif : ∀ C cells s₀ H₀ ex pins, z6G (j9 X scope (xs ++ fr) C cells s₀ H₀ ex pins) ifs tc)
    (hgt : ∀ C cells s₀ H₀ ex pins, PG (j9 X scope (xs ++ fr) C cells s₀ H₀ ex pins) tg g) (I : Inv X pins σ H s) (T : Turn X.prog X.w X.K tg J fp it tn) (st : tn 0 s.heap) (hfp : ∀ b ∈ fp, z19 X pins H b) (h : z58 J g tc te Q (z8Q σ ix (List.replicate xs.length none)) H)
    (hE : ∀ cells e s8, (∃ pb σb, yR (j9 X scope (xs ++ fr) (s.heap.push zP).objs.size cells s H fp pins) pb σb E e s8) → notedBy (model X.prog X.w) X.A (compEnvC scope cells (s.heap.push zP).objs.size X.env) (fun e s' => R (.error e) s') e s8)
    (hR : ∀ s4 ys H4, (∃ m, s4.heap.Ns (s.heap.push zP).objs.size m) → Q ys H4 → H4 s.heap.objs.size = none → H4 (s.heap.push zP).objs.size = none → (∀ h', Heap.SameBut (s.heap.push zP).objs.size s4.heap h' → Inv X pins σ (upd H4 s.heap.objs.size (.lst ys)) { s4 with heap := h' }) → R (.ok .next) s4) :
    codeAny (model X.prog X.w) X.A (.compLoop (.ListComp elt [⟨tg, iter, ifs, 0⟩] scope pos) 0 (.ref it) (.ref s.heap.objs.size)
      (compEnvC scope (cellsFrom ((s.heap.push zP).push jM).objs.size scope.names (kD X.env scope.names [])) (s.heap.push zP).objs.size X.env)) R { s with heap := pushCells ((s.heap.push zP).push jM) scope.names } := by
  obtain ⟨W, ⟨m0, w0⟩, turn⟩ := h;have hlt : ∀ b ∈ fp, b < s.heap.objs.size := fun b hb => by
    obtain ⟨o, e, _⟩ := T.obj 0 _ st b hb;exact Heap.lt_size e
  have I0 := z5X S I hfp hlt;have z1 : (s.heap.push zP).objs.size = s.heap.objs.size + 1 := Heap.size_push ..;have up : ∀ b o, s.heap.get? b = some o → (pushCells ((s.heap.push zP).push jM) scope.names).get? b = some o := fun b o e => pushCells_keeps _ _ b o (Heap.get?_push_of_some _ (Heap.get?_push_of_some _ e))
  have oD0 : (pushCells ((s.heap.push zP).push jM) scope.names).get? s.heap.objs.size = some { cls := .type "list", data := .seq ([] : List Value).toArray } :=
    pushCells_keeps _ _ _ _ (Heap.get?_push_of_some _ (Heap.get?_push_size _ rfl))
  have clo' : ∀ y ∈ scope.names, y.2 = .free → ∃ c, X.env.cells.lookup y.1 = some c := fun y hy hk => I.ok.has y.1 (S.clo y hy hk)
  have cellsD : ∀ y c, (cellsFrom ((s.heap.push zP).push jM).objs.size scope.names (kD X.env scope.names [])).lookup y = some c → c ≠ s.heap.objs.size := fun y c e => by
    rcases z1l scope.names ((s.heap.push zP).push jM) (kD X.env scope.names []) y c e with ⟨_, a2, _⟩ | a
    · rw [Heap.size_push, z1] at a2;exact Nat.ne_of_gt (Nat.lt_of_lt_of_le (Nat.lt_succ_of_lt (Nat.lt_succ_self _)) a2)
    · obtain ⟨v, q⟩ := I.cell y c (z0z scope.names [] clo' (fun y c e => by simp at e) y c a);exact Nat.ne_of_lt q.lt
  generalize cellsFrom ((s.heap.push zP).push jM).objs.size scope.names (kD X.env scope.names []) = cells at I0 cellsD ⊢;generalize hCe : (s.heap.push zP).objs.size = C at I0 hR hE z1 ⊢;generalize hDe : s.heap.objs.size = D at z1 oD0 cellsD hlt hR ⊢;have hDC : D ≠ C := by omega
  have DleD : s.heap.objs.size ≤ D := by omega
  have DleC : s.heap.objs.size ≤ C := by omega
  have pnD : ∀ p ∈ X.pn ++ pins, p.1 ≠ D := fun p hp => by
    have := Heap.lt_size (I.pin p hp).1;exact Nat.ne_of_lt (hDe ▸ this)
  have Dfs : D ∉ frs X.stack := fun z => by
    rcases List.mem_cons.mp (I.stkSub D z) with e | e
    · have := I.lt;rw [← e, hDe] at this;exact Nat.lt_irrefl _ this
    · exact I.nofs DleD e
  refine z1L (fun n s' => ∃ i ys its k ox H', Inv (j9 X scope (xs ++ fr) C cells s H fp pins) [] ox H' s' ∧ tn i s'.heap ∧ (∀ b ∈ fp, H' b = none) ∧ s'.heap.get? D = some { cls := .type "list", data := .seq its.toArray k } ∧ H' D = none ∧ jb ys its ∧ W i n ys ox H') ?_ m0
    ⟨0, [], [], 0, _, H, I0, T.keep _ _ _ st fun b hb o e => up b o e, fun b hb => (hfp b hb).1, oD0, I.hok.fresh DleD, .nil, w0⟩
  rintro n s3 ⟨i, ys, its, k, ox, H3, I3, st3, fr3, oD3, nD3, rv3, w3⟩;obtain ⟨hys, hcase⟩ := turn i n ys ox H3 w3;have hlen := rv3.length;have DC' : D ≠ (j9 X scope (xs ++ fr) C cells s H fp pins).env.locals := hDC;have I3p : Inv (j9 X scope (xs ++ fr) C cells s H fp pins) [(D, { cls := .type "list", data := .seq its.toArray k })] ox H3 s3 := I3.pins_of fun p hp => by
    rw [List.mem_singleton.mp hp];exact ⟨oD3, nD3, DC', Dfs, fun v z => by cases z⟩
  have fpY : ∀ {H' : Hp}, (∀ b ∈ fp, H' b = none) → ∀ b ∈ fp, z19 (j9 X scope (xs ++ fr) C cells s H fp pins) [(D, { cls := .type "list", data := .seq its.toArray k })] H' b := fun {H'} hn b hb => by
    obtain ⟨e1, e2⟩ := I3.ok.exf b hb;refine ⟨hn b hb, e1, I3.ok.exfs b hb, .inl hb, e2, fun p hp => ?_⟩;rcases List.mem_append.mp hp with hp | hp
    · exact (hfp b hb).2.2.2.2.2 p hp
    · rw [List.mem_singleton.mp hp];have := hlt b hb;exact Nat.ne_of_gt this
  rcases hcase with ⟨stop, q⟩ | ⟨go, NY, NN, hNY, hNN, step⟩
  · refine thn (T.done (j9 X scope (xs ++ fr) C cells s H fp pins) rfl rfl rfl hc i _ s3 _ H3 _ I3p (fpY fr3) st3 stop) fun r s4 ⟨hr, I4⟩ => ?_
    subst hr;have oD4 := (I4.pin (D, { cls := .type "list", data := .seq its.toArray k }) (List.mem_append_right _ (List.mem_singleton.mpr rfl))).1;obtain ⟨m, hn, _⟩ := I4.loc;exact hR s4 ys H3 ⟨m, hn⟩ q nD3 I4.free fun h' sb => z5e I hfp I4 DleD DleC hDC nD3 oD4 rv3 (Nat.le_of_lt hys) sb
  · refine thn (T.item (j9 X scope (xs ++ fr) C cells s H fp pins) rfl rfl rfl hc i _ s3 _ H3 _ I3p (fpY fr3) st3 go) fun r s4 ⟨u, hr, h4⟩ => ?_
    subst hr;refine thn h4 fun _ s5 ⟨v, H5, I5, r5, y5, st5, fr5⟩ => ?_
    have I5' := I5.pinned (fpY fr5) (T.obj _ _ st5);refine wpAny_mono (hgt C cells s H fp pins _ s5 _ H5 v u _ I5' r5 (step v H5 y5)) (fun _ s6 ⟨σ6, H6, I6, q6⟩ => ?_) fun _ _ z => z.elim
    refine wpAny_mono (hif C cells s H fp pins _ s6 _ H6 _ I6 q6) (fun b s7 ⟨H7, I7, q7⟩ => ?_) fun _ _ z => z.elim
    have tnK : ∀ {H8 : Hp} {s8 : Shared} {σ8 : St}, Inv (j9 X scope (xs ++ fr) C cells s H fp pins) ([(D, { cls := .type "list", data := .seq its.toArray k })] ++ z1K fp s5.heap) σ8 H8 s8 → tn (i + 1) s8.heap ∧ (∀ b ∈ fp, H8 b = none) ∧ s8.heap.get? D = some { cls := .type "list", data := .seq its.toArray k } ∧ H8 D = none := fun {H8 s8 σ8} I8 => by
      refine ⟨T.keep _ _ _ st5 fun b hb o e => (I8.pin (b, o) (List.mem_append_right _ (List.mem_append_right _ (kL hb e)))).1, fun b hb => ?_, ?_, ?_⟩
      · obtain ⟨o, e, d⟩ := T.obj _ _ st5 b hb;exact (I8.pin (b, o) (List.mem_append_right _ (List.mem_append_right _ (kL hb e)))).2.1
      · exact (I8.pin (D, { cls := .type "list", data := .seq its.toArray k }) (List.mem_append_right _ (List.mem_append_left _ (List.mem_singleton.mpr rfl)))).1
      · exact (I8.pin (D, { cls := .type "list", data := .seq its.toArray k }) (List.mem_append_right _ (List.mem_append_left _ (List.mem_singleton.mpr rfl)))).2.1
    cases b with
    | false =>
      rw [if_neg Bool.false_ne_true] at q7 ⊢;obtain ⟨m', hm, w7⟩ := hNN _ _ q7;obtain ⟨t1, t2, t3, t4⟩ := tnK I7;exact ⟨m', hm, i + 1, ys, its, k, σ6, H7, I7.pins_of fun p hp => (by cases hp), t1, t2, t3, t4, rv3, w7⟩
    | true =>
      rw [if_pos rfl] at q7 ⊢;refine wpAny_mono (hel C cells s H fp pins _ s7 _ H7 _ (I7.wish _) q7) (fun y s8 ⟨w, H8, I8w, r8, q8⟩ => ?_) fun e s8 z => hE cells e s8 z
      have I8 := I8w.unwish;obtain ⟨m', hm, w8⟩ := hNY _ _ _ q8;obtain ⟨t1, t2, t3, t4⟩ := tnK I8;refine call_meets F.slot_list_append ⟨_, t3, rfl⟩ F.entry_list_append (F.args_list_append_2 _ _) (PySem.list_append D its.toArray k y (by rw [List.size_toArray]; omega)) ⟨t3, ?_⟩;obtain ⟨k9, oD9⟩ : ∃ k9, (s8.heap.update D (Obj.mapSeq (·.push y))).get? D = some { cls := .type "list", data := .seq (its ++ [y]).toArray k9 } := ⟨_, by
        rw [show (its ++ [y]).toArray = its.toArray.push y by simp];exact PySem.IsL.update t3 (·.push y)⟩
      have I8n : Inv (j9 X scope (xs ++ fr) C cells s H fp pins) [] σ6 H8 s8 := I8.pins_of fun p hp => (by cases hp)
      have I9 := Inv.turned (it := D) (t' := s8.toks) (h' := s8.heap.update D (Obj.mapSeq (·.push y))) I8n (fun b o hb e => (Heap.get?_update_other s8.heap _ (Ne.symm hb)).trans e) t4 DC' (.inr DleD) cellsD (fun p hp => pnD p (by simpa using hp));exact ⟨m', hm, i + 1, ys ++ [w], its ++ [y], k9, σ6, H8, I9, T.keep _ _ _ t1 fun b hb o e => (Heap.get?_update_other s8.heap _ (Nat.ne_of_gt (hlt b hb))).trans e, t2, oD9, t4, rv3.append (.cons r8 .nil), w8⟩
theorem z5T {j : Nat} {y : Str} {E : XK} {py spos : Pos} (hc : X.calm = true) (hN : X.N.Nodup) (hj : X.N[j]? = some y) (hy : Loc X.env.scope y) (S : CompScG X scope xs fr ix) (hi : PI X tg iter wi) (hgt : ∀ C cells s₀ H₀ ex pins, PG (j9 X scope (xs ++ fr) C cells s₀ H₀ ex pins) tg g)
    (hif : ∀ C cells s₀ H₀ ex pins, z6G (j9 X scope (xs ++ fr) C cells s₀ H₀ ex pins) ifs tc) (hel : ∀ C cells s₀ H₀ ex pins, PE (z4D X scope (xs ++ fr) C cells s₀ H₀ ex pins E) elt te) (hst : X.stack = X.env :: X.outer) (hfm : X.env.frame = some X.env.locals) (hx : z3w X E)
    (hs : ∀ x, foldedSetIterable iter X.env x = pure x := by intro _; rfl)
    (hsw : swapsWith (.ListComp elt [⟨tg, iter, ifs, 0⟩] scope pos) (some (.Name y py)) spos.line X.env = pure true := by rfl)
    (hf : X.fn y = true ∨ X.env.scope.names.lookup y = some .local := by first | exact .inl rfl | exact .inr rfl | assumption) :
    PS X (.Assign [.Name y py] (.ListComp elt [⟨tg, iter, ifs, 0⟩] scope pos) spos) (z7V j wi xs.length ix g tc te) := by
  intro pins s σ H D I h;rw [exec_Assign_Name_used _ _ _ _ hsw];refine wpAny_bind (wpAny_standAt (wpAny_bind ?_))
  show wpAny _ X.A (do let _ ← comprehension (.ListComp elt [⟨tg, iter, ifs, 0⟩] scope pos) scope X.env _ (newList []) false (eval iter X.env) (some (assign (.Name y py) X.env))) _ _ s
  have clo' : ∀ y ∈ scope.names, y.2 = .free → ∃ c, X.env.cells.lookup y.1 = some c := fun y hy hk => I.ok.has y.1 (S.clo y hy hk)
  refine wpAny_bind (wpAny_mono (wpAny_comprehension_free (use := some (assign (.Name y py) X.env)) (Q := fun _ s' => SP X pins D .next s') rfl hs (z0p clo') S.kind S.names
    (thn (hi pins s σ H _ I h) fun v s1 h1 => thn h1 fun itv s2 h2 => ?_)) (fun _ s' hq => wpAny_pure (wpAny_pure hq)) fun _ _ e => e)
  obtain ⟨it, fp, tn, J, H2, rfl, I2, T, st2, f2, hw⟩ := h2;refine wpAny_newObj_type (z0Z ?_);have st3 : tn 0 (pushCells ((s2.heap.push zP).push jM) scope.names) := T.keep _ _ _ st2 fun b hb o e => pushCells_keeps _ _ b o (Heap.get?_push_of_some _ (Heap.get?_push_of_some _ e))
  have z1 : (s2.heap.push zP).objs.size = s2.heap.objs.size + 1 := Heap.size_push ..;have loop := z6o (iter := iter) (pos := pos) (R := compPost (model X.prog X.w) X.A X.xe (some (assign (.Name y py) X.env)) (fun _ s' => SP X pins D .next s') (.ref s2.heap.objs.size) (s2.heap.push zP).objs.size) hc S hel hif hgt I2 T st2 f2 hw (fun cells e s8 ⟨pb, σb, al⟩ => zaa hst hfm hx I2 f2 al fun s' z => z)
    (fun s4 ys H4 ⟨m, hn⟩ q nD nC4 hb => by
      have I5 : Inv X pins σ (upd H4 s2.heap.objs.size (.lst ys)) s4 := hb s4.heap (Heap.SameBut.refl ..);have CL : (s2.heap.push zP).objs.size ≠ X.env.locals := by rw [z1]; exact Nat.ne_of_gt (Nat.lt_succ_of_lt I2.lt)
      have CC : ∀ z c, X.env.cells.lookup z = some c → c ≠ (s2.heap.push zP).objs.size := fun z c e => by
        obtain ⟨v, w⟩ := I2.cell z c e;rw [z1];exact Nat.ne_of_lt (Nat.lt_succ_of_lt w.lt)
      show wpAny _ X.A (assign (.Name y py) X.env (.ref s2.heap.objs.size)) _ _ s4
      refine wpAny_assign_Name (z2z (v := .ref s2.heap.objs.size) I5 hN hj hy rfl (fun s6 I6 ⟨a, sa, ha⟩ => ?_) hf);have aC : (s2.heap.push zP).objs.size ≠ a := by
        rcases ha with e | e
        · rw [e]; exact CL
        · exact (CC _ _ e).symm
      refine ⟨m, hn.sameBut sa aC, fun h6 sb6 => ?_⟩;have nC : upd H4 s2.heap.objs.size (.lst ys) (s2.heap.push zP).objs.size = none := by
        rw [zO (by rw [z1]; exact Nat.succ_ne_self _)];exact nC4
      have I7 := Inv.turned (it := (s2.heap.push zP).objs.size) (t' := s6.toks) (h' := h6) I6 (fun b o hb e => (sb6.2 b hb).trans e) nC CL (.inr (by rw [z1]; exact Nat.le_succ_of_le I2.sz)) CC (fun p hp => by
        rw [z1];exact Nat.ne_of_lt (Nat.lt_succ_of_lt (Heap.lt_size (I2.pin p hp).1)))
      exact ⟨_, _, I7, q _ nD⟩)
  exact codeAny_compStart_list loop (T.self _ _ _ _ _ st3 loop)
end
end L2

namespace L2
open PySem PySem.Spec PyProof.Rows
theorem z84 {prog : Program} {w : World} {A : Around} {E : Value → Shared → Prop} {s : Shared} {K : PySem.W.Frag} {x D : Addr} {ox : Obj} {Q : Option Value → Shared → Prop}
    (hga : PySem.W.findIn K (.ref D) "__getattribute__" = some (some (.builtin "BaseException.__getattribute__"))) (hgt : PySem.W.findIn K (.ref D) "__getattr__" = some none) (hbe : PySem.W.subIn K (.ref D) (.type "BaseException") = some true)
    (hf : PySem.W.findObj K D none "__class__" = some (.bind (.builtin "getset_descriptor.__get__") (.builtin "object.__class__"))) (hm : PySem.W.mroIn K D (.type "object") = some true)
    (X : K.In s.heap) (I : PySem.W.InstAt s.heap x ox D none) (h : Q (some (.ref D)) { s with toks := s.toks + 1 }) : wpAny (model prog w) A (getAttr? (.ref x) "__class__") Q E s := by
  obtain ⟨hh, g, d, t, os⟩ := s;have L0 := I.type (M := model prog w);have L1 := PySem.W.looks_findIn (M := model prog w) X hga;have L2 := PySem.W.looks_findIn (M := model prog w) X hgt;have L3 := PySem.W.looks_find (M := model prog w) X I hf;have LI : PySem.W.Looks (model prog w) hh (isInstance (.ref x) (.type "BaseException")) true := L0.andThen (PySem.W.looks_subIn X hbe);unfold getAttr? getAttrBy? getAttrBy;refine wpAny_bind (wpAny_mkText (wpAny_bind (wpAny_attempt (wpAny_holding (wpAny_bind (L0.at (wpAny_bind (L1.at ?_))))))));have hx2 : (Value.builtin "BaseException.__getattribute__" == Value.builtin "object.__getattribute__") = false := by decide +kernel
  have hx1 : (onTheHeap (Value.ref D) && Value.builtin "BaseException.__getattribute__" == Value.builtin "object.__getattribute__") = false := by rw [hx2]; rfl
  dsimp only;rw [if_neg (by rw [hx1]; exact Bool.false_ne_true)];unfold getAttrByItsOwn hookBefore;rw [if_pos (show onTheHeap (Value.ref D) = true from rfl)];refine wpAny_bind (L2.at (wpAny_bind ?_));refine wpAny_attempt (wpAny_holding ?_);have f3 := PySem.F.excAttr_ValueError.ga.bind (.ref x)
  show wpAny _ _ (boundAndCalled _ _ _) _ _ _
  unfold boundAndCalled;rw [f3];refine wpAny_bind (wpAny_pure ?_);refine wpAny_call (codeAny_call_builtin PySem.F.excAttr_ValueError.ga.plain F.entry_bexc_ga ?_);have hk : builtinKind "BaseException.__getattribute__" = some .slot := by decide +kernel
  have hsplit : splitId "BaseException.__getattribute__" = some ("BaseException", "__getattribute__") := by decide +kernel
  simp only [checkBuiltinCall, hk, hsplit];refine wpAny_bind (LI.at ?_);have ha := F.args_bexc_ga (.ref x) (.str "__class__" t);rw [if_neg (show ¬ ((!true) = true) from Bool.false_ne_true)];have fin : wpAny (model prog w) A.in1 (Builtin.«object.__getattribute__» ⟨[.ref x, .str "__class__" t], []⟩)
      (fun f s' => match f with
        | .done (.ret v) => wpAny (model prog w) A (handedOut v) (fun a s'' => Q (some a) s'') (fun _ _ => False) s'
        | _ => False) (fun _ _ => False) ⟨hh, g, d, t + 1, os⟩ := by
    unfold Builtin.«object.__getattribute__»;refine wpAny_bind (wpAny_pure (wpAny_bind (wpAny_pure (wpAny_bind (L0.at (wpAny_bind (L3.at ?_)))))))
    show wpAny _ _ (Builtin.ObjectAttr.bindTo _ _ _ _) _ _ _
    unfold Builtin.ObjectAttr.bindTo;dsimp only;refine wpAny_bind (wpAny_holding (wpAny_call (PySem.W.class_get (s := ⟨hh, g, d, t + 1, os⟩) (ox := ox) (od := none) X I hm ?_)));exact wpAny_pure (PySem.W.handed_on rfl h)
  refine wpAny_mono (Q := fun _ s1 => s1 = ⟨hh, g, d, t + 1, os⟩) (E := fun _ _ => False) ?_ (fun _ s1 e1 => ?_) (fun _ _ z => z.elim)
  · cases hsig : Manifest.signature? "BaseException.__getattribute__" with
    | none => exact wpAny_pure rfl
    | some sig =>
      simp only [argsOk, hsig] at ha
      show wpAny _ _ (Bind.checkArgs _ _ ⟨[.ref x, .str "__class__" t], []⟩) _ _ _
      rw [ha];exact wpAny_pure rfl
  · subst e1;refine wpAny_mono fin (fun f s' z => ?_) (fun _ _ z => z.elim);rcases f with (_ | _ | _ | _) | _ <;> first | exact wpAny_mono z (fun v s'' hv => wpAny_pure hv) (fun _ _ z => z.elim) | exact z.elim
structure ExcCls (K : PySem.W.Frag) (D : Addr) : Prop where
  ga : PySem.W.findIn K (.ref D) "__getattribute__" = some (some (.builtin "BaseException.__getattribute__"))
  gt : PySem.W.findIn K (.ref D) "__getattr__" = some none
  be : PySem.W.subIn K (.ref D) (.type "BaseException") = some true
  hc : (PySem.W.clsIn K D).isSome = true
  ha : PySem.W.findIn K (.ref D) "__class__" = some (some (.builtin "object.__class__"))
  hn : PySem.W.specialIn K (.builtin "object.__class__") "__get__" = some (some (.builtin "getset_descriptor.__get__"))
  ht : PySem.W.takesIn K (.builtin "object.__class__") = some true
  hm : PySem.W.mroIn K D (.type "object") = some true
theorem z5d {x D : Addr} {h : Heap} (e : ExcAt x D h) : ∃ ox, PySem.W.InstAt h x ox D none := by
  obtain ⟨o, vs, h1, h2, h3, h4⟩ := e;refine ⟨o, h1, h2, ?_, ?_⟩
  · unfold PySem.W.notCls;rw [h4]
  · rw [h3];exact True.intro
theorem z8h {K : PySem.W.Frag} {x D : Addr} (c : ExcCls K D) : PySem.W.KitX K (.ref x) (.ref D) (fun h => ExcAt x D h) where
  ty := fun _ _ _ e => by obtain ⟨ox, I⟩ := z5d e; exact I.type
  it := fun _ _ X _ => by
    obtain ⟨cdD, hcD⟩ := Option.isSome_iff_exists.mp c.hc;unfold PySem.W.clsIn at hcD;split at hcD
    · rename_i c' d' cd' sl' ho;intro A' Q' E' s' k q;unfold isType loadHead;exact wpAny_bind (wpAny_loadPart (k _ _ (X _ _ ho)) (wpAny_pure q))
    · cases hcD
  ne := fun h tp dd its n sl X htp => by
    obtain ⟨cdD, hcD⟩ := Option.isSome_iff_exists.mp c.hc;refine Bool.eq_false_iff.mpr fun q => ?_
    have e : D = tp := Value.ref.inj (beq_iff_eq.mp q);subst e;unfold PySem.W.clsIn at hcD;split at hcD
    · rename_i c' d' cd' sl' ho;have z := (X _ _ ho).symm.trans htp;cases z
    · cases hcD
  ca := fun {prog w A E Q s} X e k => by
    obtain ⟨ox, I⟩ := z5d e;have hf : PySem.W.findObj K D none "__class__" = some (.bind (.builtin "getset_descriptor.__get__") (.builtin "object.__class__")) := by
      obtain ⟨cd, hcd⟩ := Option.isSome_iff_exists.mp c.hc;unfold PySem.W.findObj;rw [hcd, Option.bind_some, c.ha, Option.bind_some];simp [c.hn, c.ht]
    exact z84 c.ga c.gt c.be hf c.hm X I k
section
variable {X : Cx}
theorem z0G {K : PySem.W.Frag} (hK : X.K = K) : z03 X (.builtin "isinstance") (fun xs H Q => ∃ ea D y c b, xs = [.ref ea, y] ∧ (∀ u, RelV y u → u = c) ∧ H ea = some (.ext (ExcAt ea D)) ∧ ExcCls K D ∧ PySem.W.kitOne K (.ref D) c = some b ∧ Q (.bl b) H) := by
  subst hK;intro pins s σ H xs us Q I r h;obtain ⟨ea, D, y, c, b, rfl, hy, he, hD, hb, q⟩ := h;obtain ⟨u, w', rfl, rx, ry⟩ := vals2 r;cases (show u = Value.ref ea from rx);cases hy w' ry;obtain ⟨p, _, _⟩ := (show yP X.prog X.w H s.heap ea (.ext (ExcAt ea D)) from I.hok ea _ he);exact PySem.W.kia_one (z8h hD) I.kIn p hb (fun z => nomatch z) fun tk => ⟨.bl b, H, I.tok _, rfl, q⟩
def zaR : V → List V → Hp → VK → Prop := fun x vs H Q => ∃ z, x = .str z ∧ vs = [] ∧ z.length ≤ 5592405 ∧ Q (.str (Txt.upper z)) H
theorem z8o : MtM X "str.upper" zaR := by
  intro pins s σ H x vs v us Q I rx rv h;obtain ⟨z, rfl, rfl, hz, q⟩ := h;obtain ⟨t, rfl⟩ := rx;cases rv;exact SC.upper (PyProof.Rows.fit_upper hz) ⟨.str _, H, I.tok _, ⟨_, rfl⟩, q⟩
def PEk (X : Cx) (e : Expr) (t : TE) : Prop :=
  ∀ (pins : List (Addr × Obj)) (s : Shared) (σ : St) (H : Hp) (Q : VK), Inv X pins σ H s → 1 ≤ s.toks → t σ H Q → wpAny (model X.prog X.w) X.A (eval e X.env) (EP X pins σ Q) X.xe s
def PSk (X : Cx) (st : Stmt) (t : TS) : Prop :=
  ∀ (pins : List (Addr × Obj)) (s : Shared) (σ : St) (H : Hp) (D : Ends), Inv X pins σ H s → 1 ≤ s.toks → t D σ H → wpAny (model X.prog X.w) X.A (exec st X.env) (SP X pins D) X.xe s
def zbm (i : Nat) (y z : Str) : TE := fun σ H Q => ∃ x, σ[i]? = some (some (.str x)) ∧ x.length ≤ 1048576 ∧ z.length ≤ 14 ∧ (y == z) = false ∧ Q (.str (Txt.replace x y z)) H
theorem z8J {pins : List (Addr × Obj)} {s : Shared} {σ : St} {H : Hp} {i : Nat} {x : Str} {v : V} {pos : Pos} {Q : Value → Shared → Prop} (I : Inv X pins σ H s) (hN : X.N[i]? = some x) (hv : Vis X.env.scope x) (e : σ[i]? = some (some v)) (h : ∀ u, RelV v u → Q u s)
    (hd : (x == ("__debug__" : Str)) = false := by decide) (hcd : (x == ("__classdict__" : Str)) = false := by decide) : wpAny (model X.prog X.w) X.A (eval (.Name x pos) X.env) Q X.xe s := by
  obtain ⟨m, hn, hl⟩ := I.loc;obtain ⟨u, r, l⟩ := hl i x v hN e hv;have fin := h u r;rcases l with ⟨hk, hm⟩ | ⟨hk, c, hc, hcell⟩
  · exact wpAny_Name (wpAny_loadName_local I.ok.kind hk hn hm fin) hd
  · rcases hk with hk | hk
    · exact wpAny_Name (wpAny_loadName_cell I.ok.kind hk hc hcell fin) hd
    · exact wpAny_Name (wpAny_loadName_free I.ok.kind hk hc hcell fin hcd) hd
theorem z8s {i : Nat} {x y z : Str} {np apos cpos p1 p2 : Pos} {j1 j2 : Nat} (hN : X.N[i]? = some x) (hv : Vis X.env.scope x)
    (hbase : attributeBase (.Name x np) "replace" X.env (eval (.Name x np) X.env) = eval (.Name x np) X.env := by rfl)
    (hline : (apos.endLine == cpos.line) = true := by rfl) (hd : (x == ("__debug__" : Str)) = false := by decide) (hcd : (x == ("__classdict__" : Str)) = false := by decide) :
    PEk X (.Call (.Attribute (.Name x np) "replace" apos) [.Constant (.str y) j1 p1, .Constant (.str z) j2 p2] [] cpos) (zbm i y z) := by
  intro pins s σ H Q I htk h;obtain ⟨n, e, hn, hz, hyz, q⟩ := h;refine wpAny_Call_method_late hbase rfl hline rfl (z8J I hN hv e (fun u ru => ?_) hd hcd);obtain ⟨t, rfl⟩ := ru;obtain ⟨h1, h2⟩ := z5Y (X := X) (T := "str") I (show RelV (.str n) (.str n t) from ⟨t, rfl⟩) rfl;refine ⟨"str", "str.replace", PySem.F.plainAttrs_str, PySem.F.slot_str_replace, PySem.F.type_str_replace, h1, h2, ?_⟩;refine Calls.callWith_builtin rfl (Calls.evalArgs_plain ?_)
  show wpAny _ _ (spliced [(false, eval (.Constant (.str y) j1 p1) X.env), (false, eval (.Constant (.str z) j2 p2) X.env)]) _ _ s
  refine Calls.spliced_cons (Calls.Constant_str (Calls.spliced_cons (Calls.Constant_str (Calls.spliced_nil ?_))));exact SC.replaceW (fun (q : (s.toks : Nat) = 0) => by omega) (fun (q : (s.toks + 1 : Nat) = 0) => by omega) (fun (q : (s.toks : Nat) = s.toks + 1) => by omega) hyz hn hz fun t' k => ⟨.str _, H, I.tok _, ⟨_, rfl⟩, q⟩
theorem z6q {a b : Expr} {ta tb : TE} {bp rp : Pos} (ha : PEk X a ta) (hb : PE X b tb) : PSk X (.Return (some (.BinOp a .Add b bp)) rp) (zbN (tOp (fun x y H Q => ∃ i j, x = .str i ∧ y = .str j ∧ i.length + j.length ≤ sizeLine ∧ Q (.str (i ++ j)) H) ta tb)) := by
  intro pins s σ H D I htk h;refine wpAny_Return_some (wpAny_BinOp (thn (ha pins s σ H _ I htk h) fun v s1 ⟨x, H1, I1, r1, q1⟩ => thn (hb pins s1 σ H1 _ I1 q1) fun u s2 ⟨y, H2, I2, r2, q2⟩ => ?_));exact thn (zp pins s2 σ H2 x y v u _ I2 r1 r2 q2) fun v s1 ⟨x, H1, I1, r1, q1⟩ => ⟨x, σ, H1, I1, r1, q1⟩
def zb4 (i : Nat) (c : Int) (t u : TS) : TS := fun D σ H => ∃ k : Int, σ[i]? = some (some (.int k)) ∧ (if k = c then t D σ H else u D σ H)
theorem z7J {i : Nat} {x : Str} {c : Int} {np p1 p2 p3 : Pos} {j : Nat} {body : List Stmt} {st : Stmt} {t u : TS} (hN : X.N[i]? = some x) (hv : Vis X.env.scope x) (hb : PSs X body t) (hs : PSk X st u)
    (hd : (x == ("__debug__" : Str)) = false := by decide) (hcd : (x == ("__classdict__" : Str)) = false := by decide) :
    PSs X [.If (.Compare (.Name x np) [.Eq] [.Constant (.int c) j p1] p2) body [] p3, st] (fun D σ H => zb4 i c (fun D => t { D with nx := fun _ _ => False }) u D σ H) := by
  intro pins s σ H D I h;obtain ⟨k, e, h⟩ := h;refine wpAny_execs_cons (wpAny_If (wpAny_isTrue_Compare1 (z8J I hN hv e (fun v rv => ?_) hd hcd) rfl));obtain ⟨tk, rfl⟩ := rv;refine wpAny_Constant_int (eq_int (wpAny_truthy_bool ?_));by_cases hk : k = c
  · subst hk;rw [if_pos rfl] at h;simp only [beq_self_eq_true, if_true];refine thn (hb pins _ σ H _ (I.tok _) h) fun f s1 q => ?_
    cases f with
    | next => obtain ⟨_, _, _, q⟩ := q; exact q.elim
    | ret v => exact q
    | brk => exact q
    | cont => exact q
  · rw [if_neg hk] at h;rw [show (k == c) = false from by simpa using hk];simp only [Bool.false_eq_true, if_false];refine wpAny_execs_nil ?_;refine wpAny_execs_cons (thn (hs pins _ σ H D (I.tok _) (Nat.succ_le_succ (Nat.zero_le _)) h) fun f s1 q => ?_);cases f with
    | next => exact wpAny_execs_nil q
    | ret v => exact q
    | brk => exact q
    | cont => exact q
def tJn (t : TS) : TS := fun D σ H => ∃ J : St → Hp → Prop, t { D with nx := J } σ H ∧ ∀ σ' H', J σ' H' → D.nx σ' H'
theorem z9z {st : Stmt} {t : TS} (h : PS X st t) : PS X st (tJn t) := by
  intro pins s σ H D I h1;obtain ⟨J, h1, hJ⟩ := h1;refine thn (h pins s σ H _ I h1) fun f s1 q => ?_
  cases f with
  | next => obtain ⟨σ', H', I', q⟩ := q; exact ⟨σ', H', I', hJ _ _ q⟩
  | ret v => exact q
  | brk => exact q
  | cont => exact q
end
end L2

set_option Elab.async false
set_option linter.all false
set_option maxRecDepth 100000
set_option maxHeartbeats 1000000
namespace L2
open PySem PySem.Spec PyProof.Rows
theorem Room.m {j k : Nat} {A : Around} (r : Room k A) (h : j ≤ k := by first | decide | omega) : Room j A := r.mono h
end L2
namespace Q4
open PySem L2 Cn Rw Qs
def top (i : Nat) : Stmt := PySem.Challenge.pw_sheetask_k04_lines_refused.main.body.getD i (.Pass ⟨0, 0, 0, 0⟩)
abbrev z07 : Stmt := top 10
abbrev ky : Stmt := top 11
abbrev yN : Stmt := top 12
abbrev z0a : Stmt := top 13
abbrev z1v : Stmt := top 14
abbrev yx : Stmt := top 15
abbrev z1d : Stmt := top 16
abbrev z0D : Stmt := top 17
abbrev z2u : Stmt := top 18
abbrev kA : Stmt := top 20
abbrev ke : Stmt := top 21
abbrev z06 : Stmt := top 22
abbrev jo : Stmt := top 23
abbrev yb : Stmt := top 24
abbrev yz : Stmt := top 25
abbrev yJ : Stmt := top 26
abbrev yf : Stmt := top 27
abbrev jx : Stmt := top 28
abbrev yh : Stmt := top 29
abbrev yI : Stmt := top 30
abbrev yn : Stmt := top 31
abbrev yL : Stmt := top 32
abbrev yg : Stmt := top 33
abbrev jz : Stmt := top 34
abbrev yZ : Stmt := top 35
abbrev kx : Stmt := top 36
abbrev kM : Stmt := top 37
abbrev kQ : Stmt := top 38
abbrev yM : Stmt := top 39
abbrev yt : Stmt := top 40
abbrev z1R : Stmt := top 41
structure Txt (K : PySem.W.Frag) (mg : Str → Option Value) : Prop where
  isinstance : mg "isinstance" = none
  int : mg "int" = none
  bool : mg "bool" = none
  list : mg "list" = none
  tuple : mg "tuple" = none
  str : mg "str" = none
  len : mg "len" = none
  range : mg "range" = none
  min : mg "min" = none
  max : mg "max" = none
  sum : mg "sum" = none
  sorted : mg "sorted" = none
  reversed : mg "reversed" = none
  zip : mg "zip" = none
section
variable {P : Program} {w : World} {K : PySem.W.Frag} {mg : Str → Option Value} {base : Heap} {f : Addr} {fd : FuncData}
seal PE PA PS PSs PT PI PO PG
theorem z1x {α : Type} (f : α → V) (xs : List α) (lo hi : Option Int) : z1C (xs.map f) lo hi = ((xs.drop (HT.sIx xs.length 0 lo)).take (HT.sIx xs.length xs.length hi - HT.sIx xs.length 0 lo)).map f := by
  unfold z1C;rw [List.length_map, List.map_take, List.map_drop]
def z6H (K : PySem.W.Frag) : Sp := fun vs H Q _ => ∃ (a : Addr) (ns : List Int) (few bd : Int), vs = [.ref a, .int few, .int bd] ∧ SqL K H a (ns.map V.int) ∧ ns.length ≤ 63 ∧ 0 ≤ few ∧ few ≤ bd ∧
  ∀ (m : Int) (H' : Hp), zM H H' → 0 ≤ m → m ≤ few + 40 → Q (.int m) H'
theorem z54 : FnScope ["_law_script", "_law_few", "_law_bound"] ["_law_script", "_law_few", "_law_bound"] (zv kA) := ⟨rfl, rfl, rfl, by decide +kernel, rfl, by decide +kernel, by decide +kernel⟩
theorem z4K (F : Fun K "_law_wide" "_law_wide" kA f fd) (T : Txt K mg) : FnOk P w K mg base CX0 1 f fd ["_law_script", "_law_few", "_law_bound"] (z6H K) := by
  refine F.ok z54 (fun vs H Q E h => ?_) (fun cdv A outer s H vs Q E hr h => ?_)
  · obtain ⟨a, ns, few, bd, rfl, _⟩ := h
    rfl
  obtain ⟨a, ns, few, bd, rfl, hS, h63, h0, hb, q⟩ := h;refine ⟨_, (zj (jc (zG z3e (zI zK rfl T.len PySem.boot_len (zl (pv 0) zi)) zd (zN _))
      (zq (zR (pv 2)))
      zQ)
    (zq (zR (zw zT (zV (zl (pv 1) (ya (zI (z7C rfl) rfl T.min PyProof.Rows.boot_min (yd (zr yW (pv 1) zd) (zl (pv 2) zi))) zi))) (yl z48 rfl T.int PyProof.Rows.boot_int (z7a (kT jm (zr j8 (zI (z0W rfl) rfl T.sum PyProof.Rows.boot_sum (zF (jh yB (pv 0) jF (jq zd)) zi)) zd) zd (zN _)) zi)) (fun _ _ => rfl))))), ?_⟩
  have hl : (ns.map V.int).length = ns.length := List.length_map _;refine ⟨_, rfl, a, _, rfl, .inl hS, _, _, rfl, rfl, _, rfl, ?_⟩;refine ifF (decide_eq_false (by rw [hl]; omega)) ?_;refine ⟨_, rfl, _, rfl, _, _, rfl, rfl, _, rfl, _, _, rfl, zt (by show 2 ≤ _; decide), fun lp hlp => ?_⟩;have a1 := jB hlp (.lst [V.int few, V.int (if bd < few + 40 then bd else few + 40)]);refine ⟨_, rfl, _, rfl, a, _, rfl, a1.seq hS, fun cp hcp => ?_⟩;rw [z1x];refine ⟨cp, _, rfl, SqL.of zU, _, _, rfl, rfl, (by show (0 : Int) < 16; decide), rfl, .inr ⟨_, rfl, ?_⟩⟩;have a2 := a1.trans (jB hcp (.lst (((ns.drop (HT.sIx ns.length 0 none)).take (HT.sIx ns.length ns.length (some 3) - HT.sIx ns.length 0 none)).map V.int)));obtain ⟨bb, hbb⟩ : ∃ bb, decide (V.int (((ns.drop (HT.sIx ns.length 0 none)).take (HT.sIx ns.length ns.length (some 3) - HT.sIx ns.length 0 none)).sum % 16) = V.int 5) = bb := ⟨_, rfl⟩
  dsimp only at hbb ⊢;rw [hbb];have a3 := (jB hcp (.lst (((ns.drop (HT.sIx ns.length 0 none)).take (HT.sIx ns.length ns.length (some 3) - HT.sIx ns.length 0 none)).map V.int))) lp _ zU;cases bb with
  | true => exact ⟨lp, _, _, _, rfl, rfl, SqL.of a3, yE, q _ _ a2 (by split <;> omega) (by split <;> omega)⟩
  | false => exact ⟨lp, _, _, _, rfl, rfl, SqL.of a3, yc, q _ _ a2 (by omega) (by omega)⟩

theorem z9c : ("(" : Str).length = 1 := by decide +kernel
theorem z75 : (")" : Str).length = 1 := by decide +kernel
theorem z0H : (" " : Str).length = 1 := by decide +kernel
theorem zar : ("less" : Str).length = 4 := by decide +kernel
theorem zaD : ("same" : Str).length = 4 := by decide +kernel
theorem zbG : ("not" : Str).length = 3 := by decide +kernel
theorem zbl : ("and" : Str).length = 3 := by decide +kernel
theorem zc3 : ("or" : Str).length = 2 := by decide +kernel
theorem zaJ : ("(pick " : Str).length = 6 := by decide +kernel
theorem zaE : ("(cols " : Str).length = 6 := by decide +kernel
theorem zb7 : ("(sort " : Str).length = 6 := by decide +kernel
theorem z9I : ("(first " : Str).length = 7 := by decide +kernel
theorem zb3 : ("(both " : Str).length = 6 := by decide +kernel
theorem zaS : ("(pair " : Str).length = 6 := by decide +kernel
theorem zaw : ("(join " : Str).length = 6 := by decide +kernel
theorem z9V : ("(group " : Str).length = 7 := by decide +kernel
theorem z9l : ("(pick (same " : Str).length = 12 := by decide +kernel
theorem zc8 : (") " : Str).length = 2 := by decide +kernel
theorem l_n : ("n" : Str).length = 1 := by decide +kernel
theorem l_s : ("s" : Str).length = 1 := by decide +kernel
theorem zc7 : (" n" : Str).length = 2 := by decide +kernel
theorem zbY : (" s" : Str).length = 2 := by decide +kernel
local macro_rules | `(tactic| walk_at "sl") => `(tactic| (simp only [Str.length_append, z9c, z75, z0H, zar, zaD, zbG, zbl, zc3, zaJ, zaE, zb7, z9I, zb3, zaS, zaw, z9V, z9l, zc8, l_n, l_s, zc7, zbY, PySem.sizeLine_eq]; try omega))
theorem z6X : ∀ i ∈ nums, (toString i : Str).length ≤ 31 ∧ i.natAbs.log2 < 1920 := by decide +kernel
theorem kX : ∀ i ∈ kG, (toString i : Str).length ≤ 31 ∧ i.natAbs.log2 < 1920 := by decide +kernel
theorem z0w {hs : List Str} (hn : ∀ n ∈ hs, n.length ≤ 10) : ∀ {a : Side}, Side.small hs a → (Side.txt a).length ≤ 31
  | .nm s, h => Nat.le_trans (hn s h) (by decide)
  | .nu i, h => (z6X i h).1
theorem kB {hs : List Str} (hn : ∀ n ∈ hs, n.length ≤ 10) : ∀ {c : Cond}, jD hs c → (jH c).length ≤ 80 * c.size
  | .less a b, h => by
    have h1 := z0w hn h.1;have h2 := z0w hn h.2;simp only [jH, ends, Cond.size]
    (walk_at "sl")
  | .same a b, h => by
    have h1 := z0w hn h.1;have h2 := z0w hn h.2;simp only [jH, ends, Cond.size]
    (walk_at "sl")
  | .no c, h => by
    have h1 := kB hn (c := c) h;simp only [jH, Cond.size]
    (walk_at "sl")
  | .an c d, h => by
    have h1 := kB hn (c := c) h.1;have h2 := kB hn (c := d) h.2;simp only [jH, Cond.size]
    (walk_at "sl")
  | .or c d, h => by
    have h1 := kB hn (c := c) h.1;have h2 := kB hn (c := d) h.2;simp only [jH, Cond.size]
    (walk_at "sl")
theorem za4 : inV (.str "less") [.str "less", .str "same"] = true := by decide +kernel
theorem z9M : inV (.str "same") [.str "less", .str "same"] = true := by decide +kernel
theorem zaY : inV (.str "not") [.str "less", .str "same"] = false := by decide +kernel
theorem zaT : inV (.str "and") [.str "less", .str "same"] = false := by decide +kernel
theorem zbK : inV (.str "or") [.str "less", .str "same"] = false := by decide +kernel
def wordOf : Cond → Str
  | .less _ _ => "less"
  | .same _ _ => "same"
  | .no _ => "not"
  | .an _ _ => "and"
  | .or _ _ => "or"
def subs : Cond → List Cond
  | .no c => [c]
  | .an c d => [c, d]
  | .or c d => [c, d]
  | _ => []
structure Seen (hs : List Str) (H : Hp) (c : Cond) (v : V) (p : Addr) (xs : List V) : Prop where
  e : v = .ref p
  h : H p = some (.tup (.str (wordOf c) :: xs))
  lf : inV (.str (wordOf c)) [.str "less", .str "same"] = c.leaf
  sd : c.leaf = true → ∃ a b, xs = [Side.v a, Side.v b] ∧ Side.small hs a ∧ Side.small hs b ∧ jH c = "(" ++ wordOf c ++ " " ++ ends a b ++ ")" ∧ (c = .less a b ∨ c = .same a b)
  pt : c.leaf = false → xs.length = (subs c).length ∧ (∀ (i : Nat) x, xs[i]? = some x → ∃ d, (subs c)[i]? = some d ∧ jP H d x ∧ d.size + 1 ≤ c.size ∧ jD hs d) ∧
    jH c = "(" ++ wordOf c ++ " " ++ Str.join " " ((subs c).map jH) ++ ")"
theorem seen {hs : List Str} {H : Hp} {c : Cond} {v : V} (h : jP H c v) (sm : jD hs c) : ∃ p xs, Seen hs H c v p xs := by
  cases c with
  | less a b =>
    obtain ⟨p, rfl, h⟩ := h;exact ⟨p, _, rfl, h, za4, fun _ => ⟨a, b, rfl, sm.1, sm.2, rfl, .inl rfl⟩, fun z => (by cases z)⟩
  | same a b =>
    obtain ⟨p, rfl, h⟩ := h;exact ⟨p, _, rfl, h, z9M, fun _ => ⟨a, b, rfl, sm.1, sm.2, rfl, .inr rfl⟩, fun z => (by cases z)⟩
  | no c =>
    obtain ⟨p, x, rfl, h, h1⟩ := h;refine ⟨p, _, rfl, h, zaY, fun z => (by cases z), fun _ => ⟨rfl, fun i y hy => ?_, rfl⟩⟩
    match i, hy with
    | 0, hy => cases hy; exact ⟨c, rfl, h1, Nat.le_refl _, sm⟩
  | an c d =>
    obtain ⟨p, x, y, rfl, h, h1, h2⟩ := h;refine ⟨p, _, rfl, h, zaT, fun z => (by cases z), fun _ => ⟨rfl, fun i y hy => ?_, rfl⟩⟩
    match i, hy with
    | 0, hy => cases hy; exact ⟨c, rfl, h1, by simp only [Cond.size]; omega, sm.1⟩
    | 1, hy => cases hy; exact ⟨d, rfl, h2, by simp only [Cond.size]; omega, sm.2⟩
  | or c d =>
    obtain ⟨p, x, y, rfl, h, h1, h2⟩ := h;refine ⟨p, _, rfl, h, zbK, fun z => (by cases z), fun _ => ⟨rfl, fun i y hy => ?_, rfl⟩⟩
    match i, hy with
    | 0, hy => cases hy; exact ⟨c, rfl, h1, by simp only [Cond.size]; omega, sm.1⟩
    | 1, hy => cases hy; exact ⟨d, rfl, h2, by simp only [Cond.size]; omega, sm.2⟩
theorem z5c {hs : List Str} {a : Side} (sm : Side.small hs a) : z9d (Side.v a) (Side.txt a) := by
  cases a with
  | nm s => exact .inr rfl
  | nu i => exact .inl ⟨i, rfl, (z6X i sm).2, rfl⟩
theorem z1S (x : V) (r : List V) : z1C (x :: r) (some 1) none = r := by
  unfold z1C;rw [show HT.sIx (x :: r).length 0 (some 1) = 1 by unfold HT.sIx; simp];rw [HT.sIx_none, List.drop_succ_cons, List.drop_zero, List.length_cons, Nat.add_sub_cancel, List.take_length]
theorem z3s {x : V} {r : List V} : ¬ (HT.sIx (x :: r).length 0 (some 1) = 0 ∧ HT.sIx (x :: r).length (x :: r).length none = (x :: r).length) := by
  rw [show HT.sIx (x :: r).length 0 (some 1) = 1 by unfold HT.sIx; simp];rintro ⟨z, _⟩;cases z
theorem z76 (c : Cond) : (subs c).length ≤ 2 := by cases c <;> simp [subs]
theorem zaK (c : Cond) : (((subs c).map jH).map (·.length)).sum + ((subs c).map jH).length * 1 ≤ (Str.join " " ((subs c).map jH)).length + 1 := by
  cases c with
  | less a b => simp [subs]
  | same a b => simp [subs]
  | no c => simp [subs, Str.join]
  | an c d =>
    simp only [subs, List.map_cons, List.map_nil, Str.join, Str.length_append, z0H, List.sum_cons, List.sum_nil, List.length_cons, List.length_nil];omega
  | or c d =>
    simp only [subs, List.map_cons, List.map_nil, Str.join, Str.length_append, z0H, List.sum_cons, List.sum_nil, List.length_cons, List.length_nil];omega
def z20 (K : PySem.W.Frag) (n : Nat) : Sp := fun vs H Q _ => ∃ (v : V) (hs : List Str) (c : Cond), vs = [v] ∧ jP H c v ∧ jD hs c ∧ (∀ n ∈ hs, n.length ≤ 10) ∧ c.size ≤ n ∧ c.size ≤ 1000 ∧ ∀ H', zM H H' → Q (.str (jH c)) H'
theorem z0o : FnScope ["_law_condition", "_law_ends", "_law_parts"] ["_law_condition"] (zv yb) := ⟨rfl, rfl, rfl, by decide +kernel, rfl, by decide +kernel, by decide +kernel⟩
theorem z2Q (F : Fun K "_law_spelt" "_law_spelt" yb f fd) (T : Txt K mg) (n : Nat) (C_law_spelt : Kn P w K mg base n "_law_spelt" ["_law_condition"] (z20 K n)) : FnOk P w K mg base CX0 (n + 1) f fd ["_law_condition"] (z20 K (n + 1)) := by
  refine F.ok z0o (fun vs H Q E h => ?_) (fun cdv A outer s H vs Q E hr h => ?_)
  · obtain ⟨v, hs, c, rfl, _⟩ := h
    rfl
  obtain ⟨v, hs, c, rfl, hc, sm, hn, hsz, hk, q⟩ := h;obtain ⟨p, xs, rfl, hp, lf, sd, pt⟩ := seen hc sm;have wl : (wordOf c).length ≤ 4 := by cases c <;> simp only [wordOf] <;> decide +kernel
  refine ⟨_, (zj (jc (zG z1z (zw zx (pv 0) zd (fun _ _ => rfl)) (zV (zn zm (zn zm zi))) (by with_unfolding_all rfl))
      (zj (zu (i := 1) z0o.nd rfl (Or.inl rfl) (zr zp (zr zp (yl z1u rfl T.str PyProof.Rows.boot_str (zF (zw zx (pv 0) zd (fun _ _ => rfl)) zi)) zm) (yl z1u rfl T.str PyProof.Rows.boot_str (zF (zw zx (pv 0) zd (fun _ _ => rfl)) zi))))
      (zq (zR (zr zp (zr zp (zr zp (zr zp zm (zw zx (pv 0) zd (fun _ _ => rfl))) zm) (pv 1)) zm))))
      zQ)
    (zj (yD (j := 2) rfl z0o.nd rfl (Or.inl rfl) (CompSc.of (sx := zv yb) (NX := ["_law_condition", "_law_ends", "_law_parts"]) (fr := []) (ix := []) rfl rfl (by decide +kernel)) (z6t (jh z6z (pv 0) (jq zd) jF)) (fun _ _ _ _ _ _ => kf) (fun _ _ _ _ _ _ => (zX C_law_spelt hr.m rfl (zl (pv 0) zi))))
    (zq (zR (zr zp (zr zp (zr zp (zr zp zm (zw zx (pv 0) zd (fun _ _ => rfl))) zm) (jZ PySem.F.plainAttrs_str PySem.F.slot_str_join PySem.F.type_str_join z6V zm (zl (pv 2) zi))) zm))))), ?_⟩
  refine ⟨_, rfl, p, _, _, _, rfl, rfl, SqT.of hp, yc, zt (by show 2 ≤ _; decide), fun lp hlp => ?_⟩;have a1 := jB hlp (.lst [V.str "less", V.str "same"]);have hp1 := a1 _ _ hp;refine ⟨lp, _, rfl, .inl (SqL.of zU), rfl, (by rfl), _, rfl, ?_⟩;dsimp -proj only;rw [if_neg Bool.false_ne_true, lf];cases hcl : c.leaf with
  | true =>
    obtain ⟨a, b, rfl, sa, sb, es, _⟩ := sd hcl;have la := z0w hn sa;have lb := z0w hn sb;refine ifT rfl ?_;refine ⟨_, rfl, p, _, _, _, rfl, rfl, SqT.of hp1, yE, _, _, rfl, z5c sa, _, _, rfl, rfl, by (walk_at "sl"), _, rfl, p, _, _, _, rfl, rfl, SqT.of hp1, yO, _, _, rfl, z5c sb, _, _, rfl, rfl, by (walk_at "sl"), ?_⟩;refine ⟨_, rfl, p, _, _, _, rfl, rfl, SqT.of hp1, yc, _, _, rfl, rfl, by (walk_at "sl"), _, _, rfl, rfl, by (walk_at "sl"), _, rfl, _, _, rfl, rfl, by (walk_at "sl"), _, _, rfl, rfl, by (walk_at "sl"), ?_⟩;have := q _ a1;rw [es] at this;exact this
  | false =>
    obtain ⟨hl, hpt, es⟩ := pt hcl;refine ifF rfl ?_;have sl2 := z76 c;refine ⟨_, rfl, _, rfl, p, _, rfl, SqT.of hp1, z3s, fun cp hcp => ?_⟩;rw [z1S];have a2 := a1.trans (jB hcp (.tup xs));have hcp2 : upd (upd H lp (.lst [V.str "less", V.str "same"])) cp (.tup xs) cp = some (.tup xs) := zU;refine ⟨cp, rfl, ⟨_, SqT.of hcp2⟩, ?_⟩;refine z44 (xs := xs) (fun i ys H' => zM (upd (upd H lp (.lst [V.str "less", V.str "same"])) cp (.tup xs)) H' ∧ ys = ((subs c).take i).map fun d => V.str (jH d)) ⟨zM.refl _, rfl⟩ ?_ ?_ ?_
    · rintro i ys H' hi ⟨sm', rfl⟩;exact ⟨SqT.of (sm' _ _ hcp2), jj (by rw [List.length_map, List.length_take]; omega)⟩
    · rintro i x ys H' hi ⟨sm', rfl⟩;obtain ⟨d, hd, hcd, hsd, smd⟩ := hpt i x hi;refine ⟨_, rfl, x, hs, d, rfl, hcd.same (a2.trans sm'), smd, hn, by omega, by omega, fun H3 s3 => ⟨sm'.trans s3, ?_⟩⟩;rw [List.take_add_one, hd, List.map_append]
      rfl
    · rintro ys H' ⟨sm', rfl⟩ rp hrp;rw [hl, List.take_length];have a3 := a2.trans (sm'.trans (jB hrp (.lst ((subs c).map fun d => V.str (jH d)))));have hp3 := a3 _ _ hp;have e2 : ((subs c).map fun d => V.str (jH d)) = ((subs c).map jH).map V.str := by rw [List.map_map]; rfl
      have sb := kB hn sm;rw [es] at sb;simp only [Str.length_append, z9c, z75, z0H] at sb;refine ⟨_, rfl, p, _, _, _, rfl, rfl, SqT.of hp3, yc, _, _, rfl, rfl, by (walk_at "sl"), _, _, rfl, rfl, by (walk_at "sl"), rfl, _, rfl, _, _, (subs c).map jH, rfl, rfl, SqL.of (by rw [← e2]; exact zU), ?_, _, _, rfl, rfl, by (walk_at "sl"), _, _, rfl, rfl, by (walk_at "sl"), ?_⟩
      · have := zaK c;simp only [z0H];omega
      · have := q _ a3;rw [es] at this;exact this
theorem z1D (F : Fun K "_law_spelt" "_law_spelt" yb f fd) (T : Txt K mg) (hN : ∀ k sp, FnOk P w K mg base CX0 k f fd ["_law_condition"] sp → Kn P w K mg base k "_law_spelt" ["_law_condition"] sp) : ∀ n, FnOk P w K mg base CX0 n f fd ["_law_condition"] (z20 K n)
  | 0 => ⟨fun vs H Q E h => by obtain ⟨v, hs, c, rfl, _⟩ := h; rfl, fun A outer s H args us vs Q E hr he hb hv h => by
    obtain ⟨v, hs, c, _, _, _, _, hz, _⟩ := h;have := c.size_pos;omega⟩
  | n + 1 => z2Q F T n (hN n _ (z1D F T hN n))

def z3u (K : PySem.W.Frag) (n : Nat) : Sp := fun vs H Q _ => ∃ (v : V) (hp rp : Addr) (hs : List Str) (rs : List Int) (c : Cond), vs = [v, .ref hp, .ref rp] ∧ jP H c v ∧ jD hs c ∧ H hp = some (.lst (hs.map V.str)) ∧ H rp = some (.lst (rs.map V.int)) ∧ rs.length = hs.length ∧ c.size ≤ n ∧
  ∀ H', zM H H' → Q (.bl (ev hs rs c)) H'
theorem z9t : decide (V.str "same" = V.str "less") = false := by decide +kernel
theorem z9e : decide (V.str "and" = V.str "not") = false := by decide +kernel
theorem z9U : decide (V.str "or" = V.str "not") = false := by decide +kernel
theorem zbI : decide (V.str "and" = V.str "or") = false := by decide +kernel
theorem kJ : FnScope ["_law_condition", "_law_heads", "_law_row", "_law_word", "_law_sides", "_law_part", "_law_told"] ["_law_condition", "_law_heads", "_law_row"] (zv yz) := ⟨rfl, rfl, rfl, by decide +kernel, rfl, by decide +kernel, by decide +kernel⟩
theorem z3g (F : Fun K "_law_true" "_law_true" yz f fd) (T : Txt K mg) (n : Nat) (C_law_true : Kn P w K mg base n "_law_true" ["_law_condition", "_law_heads", "_law_row"] (z3u K n)) : FnOk P w K mg base CX0 (n + 1) f fd ["_law_condition", "_law_heads", "_law_row"] (z3u K (n + 1)) := by
  refine F.ok kJ (fun vs H Q E h => ?_) (fun cdv A outer s H vs Q E hr h => ?_)
  · obtain ⟨v, hp, rp, hs, rs, c, rfl, _⟩ := h
    rfl
  obtain ⟨v, hp, rp, hs, rs, c, rfl, hc, sm, hhp, hrp, hrl, hsz, q⟩ := h;obtain ⟨p, xs, rfl, hp0, lf, sd, pt⟩ := seen hc sm;refine ⟨_, (zj (zu (i := 3) kJ.nd rfl (Or.inl rfl) (zw zx (pv 0) zd (fun _ _ => rfl)))
    (zj (jc (zG z1z (pv 3) (zV (zn zm (zn zm zi))) (by with_unfolding_all rfl))
      (zj (zu (i := 4) kJ.nd rfl (Or.inl rfl) (zV zi))
      (zj (z02 PassesOwn.never rfl (z6t (jh z6z (pv 0) (jq zd) jF)) (yQ (i := 5) kJ.nd rfl (Or.inl rfl))
        (zq (jc (yU (zI yA rfl T.isinstance PyProof.Rows.boot_isinstance (zl (pv 5) (zl (z0l (v := .ty "str") rfl T.str PyProof.Rows.boot_str rfl) zi))))
          (zq (kW (jZ PySem.F.plainAttrs_list PySem.F.slot_list_append PySem.F.type_list_append yK (pv 4) (zF (zw zT (pv 2) (jZ PySem.F.plainAttrs_list PySem.F.slot_list_index PySem.F.type_list_index z0f (pv 1) (zl (pv 5) zi)) (fun _ _ => rfl)) zi))))
          (zq (kW (jZ PySem.F.plainAttrs_list PySem.F.slot_list_append PySem.F.type_list_append yK (pv 4) (zl (pv 5) zi)))))))
      (zj (jc (zG jm (pv 3) zm (zN _))
        (zq (zR (kT z2F (zw zT (pv 4) zd (fun _ _ => rfl)) (zw zT (pv 4) zd (fun _ _ => rfl)) (zN _))))
        zQ)
      (zq (zR (kT jm (zw zT (pv 4) zd (fun _ _ => rfl)) (zw zT (pv 4) zd (fun _ _ => rfl)) (zN _)))))))
      zQ)
    (zj (yD (j := 6) rfl kJ.nd rfl (Or.inl rfl) (CompSc.of (sx := zv yz) (NX := ["_law_condition", "_law_heads", "_law_row", "_law_word", "_law_sides", "_law_part", "_law_told"]) (fr := ["_law_heads", "_law_row"]) (ix := [1, 2]) rfl rfl (by decide +kernel)) (z6t (jh z6z (pv 0) (jq zd) jF)) (fun _ _ _ _ _ _ => kf) (fun _ _ _ _ _ _ => (zX C_law_true hr.m rfl (zl (pv 0) (zl (pv 1) (zl (pv 2) zi))))))
    (zj (jc (zG jm (pv 3) zm (zN _))
      (zq (zR (z6u (zw zT (pv 6) zd (fun _ _ => rfl)))))
      zQ)
    (zj (jc (zG jm (pv 3) zm (zN _))
      (zq (zR (kT z1z z0V (pv 6) (by with_unfolding_all rfl))))
      zQ)
    (zq (zR (kT z27 z0V (pv 6) (by with_unfolding_all rfl))))))))), ?_⟩
  refine ⟨_, rfl, p, _, _, _, rfl, rfl, SqT.of hp0, yc, ?_⟩;refine ⟨_, rfl, zt (by show 2 ≤ _; decide), fun lp hlp => ?_⟩;have a1 := jB hlp (.lst [V.str "less", V.str "same"]);refine ⟨lp, _, rfl, .inl (SqL.of zU), rfl, (by rfl), _, rfl, ?_⟩;generalize upd H lp (.lst [V.str "less", V.str "same"]) = H1 at a1 ⊢;have hp1 := a1 _ _ hp0;have hh1 := a1 _ _ hhp;have hr1 := a1 _ _ hrp;rw [if_neg Bool.false_ne_true, lf];cases hcl : c.leaf with
  | true =>
    obtain ⟨a, b, rfl, sa, sb, _, hab⟩ := sd hcl;refine ifT rfl ?_;refine ⟨zt (by show 0 ≤ _; decide), fun sp hsp => ?_⟩;have b1 := jB hsp (.lst []);have hp2 := b1 _ _ hp1;refine ⟨_, rfl, _, rfl, p, _, rfl, SqT.of hp2, z3s, fun cp hcp => ?_⟩;rw [z1S];have b2 := b1.trans (jB hcp (.tup [Side.v a, Side.v b]));have ncp : cp ≠ sp := (zy zU hcp).symm;have hsp2 : upd (upd H1 sp (.lst [])) cp (.tup [Side.v a, Side.v b]) sp = some (.lst []) := by rw [zO ncp.symm]; exact zU
    have hcp2 : upd (upd H1 sp (.lst [])) cp (.tup [Side.v a, Side.v b]) cp = some (.tup [Side.v a, Side.v b]) := zU;generalize upd (upd H1 sp (.lst [])) cp (.tup [Side.v a, Side.v b]) = H2 at b2 hsp2 hcp2 ⊢;refine ⟨cp, rfl, ⟨_, SqT.of hcp2⟩, za3 (K := K) (a := cp) (xs := [Side.v a, Side.v b]) (fun i σ H' => ∃ o5 : Option V, σ = [some (.ref p), some (.ref hp), some (.ref rp), some (.str (wordOf c)), some (.ref sp), o5, none] ∧ zM H1 H' ∧ H' cp = some (.tup [Side.v a, Side.v b]) ∧ H' sp = some (.lst (([num hs rs a, num hs rs b].take i).map V.int)))
      ⟨none, rfl, b2, hcp2, hsp2⟩ (fun i σ H' _ ⟨_, _, _, h, _⟩ => SqT.of h) ?_ ?_⟩
    · rintro i x σ H' hi ⟨o5, rfl, s', hc', hs'⟩;have key : ∃ d : Side, x = Side.v d ∧ Side.small hs d ∧ [num hs rs a, num hs rs b].take (i + 1) = [num hs rs a, num hs rs b].take i ++ [num hs rs d] := by
        match i, hi with
        | 0, hi => cases hi; exact ⟨a, rfl, sa, rfl⟩
        | 1, hi => cases hi; exact ⟨b, rfl, sb, rfl⟩
      obtain ⟨d, rfl, sdd, et⟩ := key;have hh' := s' _ _ hh1;have hr' := s' _ _ hr1;have fin : ∃ o5 : Option V, ([some (.ref p), some (.ref hp), some (.ref rp), some (.str (wordOf c)), some (.ref sp), some (Side.v d), none] : List (Option V)) = [some (.ref p), some (.ref hp), some (.ref rp), some (.str (wordOf c)), some (.ref sp), o5, none] ∧ zM H1 (upd H' sp (.lst ((([num hs rs a, num hs rs b].take i).map V.int) ++ [V.int (num hs rs d)]))) ∧
          upd H' sp (.lst ((([num hs rs a, num hs rs b].take i).map V.int) ++ [V.int (num hs rs d)])) cp = some (.tup [Side.v a, Side.v b]) ∧ upd H' sp (.lst ((([num hs rs a, num hs rs b].take i).map V.int) ++ [V.int (num hs rs d)])) sp = some (.lst (([num hs rs a, num hs rs b].take (i + 1)).map V.int)) :=
        ⟨_, rfl, s'.put hsp, by rw [zO ncp]; exact hc', by rw [zU, et, List.map_append]; rfl⟩
      have hlt : ((([num hs rs a, num hs rs b].take i).map V.int)).length < sizeLine := jj (by rw [List.length_map, List.length_take]; simp only [List.length_cons, List.length_nil]; omega);cases d with
      | nm s =>
        refine ⟨_, rfl, _, _, _, _, rfl, TyOf.str s, z0i, _, rfl, ?_⟩;refine ifT rfl ?_;have hix : hs.idxOf s < rs.length := by rw [hrl]; exact List.idxOf_lt_length_iff.mpr sdd
        have hi0 := kv sdd;refine ⟨_, rfl, .inl ⟨rfl, _, SqL.of hs'⟩, _, rfl, _, rfl, .inl ⟨rfl, _, SqL.of hh'⟩, _, rfl, hp, _, _, hs.idxOf s, rfl, rfl, SqL.of hh', rfl, yX hs, hi0.1, hi0.2, rp, _, _, _, rfl, rfl, SqL.of hr', jr (int_at hix), sp, _, _, rfl, rfl, hs', hlt, ?_⟩;exact fin
      | nu k =>
        refine ⟨_, rfl, _, _, _, _, rfl, TyOf.int k, z2D, _, rfl, ?_⟩;refine ifF rfl ?_;refine ⟨_, rfl, .inl ⟨rfl, _, SqL.of hs'⟩, _, rfl, sp, _, _, rfl, rfl, hs', hlt, ?_⟩;exact fin
    · rintro σ H' ⟨o5, rfl, s', hc', hs'⟩;refine ⟨_, rfl, rfl, _, rfl, ?_⟩;have qq := q _ (a1.trans s');rcases hab with rfl | rfl
      · refine ifT rfl ?_;exact ⟨_, rfl, sp, _, _, _, rfl, rfl, SqL.of hs', yc, _, rfl, sp, _, _, _, rfl, rfl, SqL.of hs', yE, _, _, rfl, rfl, qq⟩
      · refine ifF z9t ?_;exact ⟨_, rfl, sp, _, _, _, rfl, rfl, SqL.of hs', yc, _, rfl, sp, _, _, _, rfl, rfl, SqL.of hs', yE, rfl, qbl z0U qq⟩
  | false =>
    obtain ⟨hl, hpt, es⟩ := pt hcl;refine ifF rfl ?_;have sl2 := z76 c;refine ⟨_, rfl, _, rfl, p, _, rfl, SqT.of hp1, z3s, fun cp hcp => ?_⟩;rw [z1S];have a2 := jB hcp (.tup xs);have hcp2 : upd H1 cp (.tup xs) cp = some (.tup xs) := zU;generalize upd H1 cp (.tup xs) = H2 at a2 hcp2 ⊢;refine ⟨cp, rfl, ⟨_, SqT.of hcp2⟩, ?_⟩;refine z44 (xs := xs) (fun i ys H' => zM H2 H' ∧ ys = ((subs c).take i).map fun d => V.bl (ev hs rs d)) ⟨zM.refl _, rfl⟩ ?_ ?_ ?_
    · rintro i ys H' hi ⟨sm', rfl⟩;exact ⟨SqT.of (sm' _ _ hcp2), jj (by rw [List.length_map, List.length_take]; omega)⟩
    · rintro i x ys H' hi ⟨sm', rfl⟩;obtain ⟨d, hd, hcd, hsd, smd⟩ := hpt i x hi;have t := a1.trans (a2.trans sm');refine ⟨_, rfl, _, rfl, _, rfl, x, hp, rp, hs, rs, d, rfl, hcd.same t, smd, t _ _ hhp, t _ _ hrp, hrl, by omega, fun H3 s3 => ⟨sm'.trans s3, ?_⟩⟩;rw [List.take_add_one, hd, List.map_append]
      rfl
    · rintro ys H' ⟨sm', rfl⟩ tp htp;rw [hl, List.take_length];have a3 := a1.trans (a2.trans (sm'.trans (jB htp (.lst ((subs c).map fun d => V.bl (ev hs rs d))))));have qq := q _ a3;have fl : ((subs c).map fun d => V.bl (ev hs rs d)).all z0e = true := by
        rw [List.all_map, List.all_eq_true];intro d _
        rfl
      refine ⟨_, rfl, rfl, _, rfl, ?_⟩;cases c with
      | less a b => cases hcl
      | same a b => cases hcl
      | no c =>
        refine ifT rfl ?_;exact ⟨_, rfl, tp, _, _, _, rfl, rfl, SqL.of zU, yc, _, rfl, qq⟩
      | an c d =>
        refine ifF z9e ?_;refine ⟨_, rfl, rfl, _, rfl, ?_⟩;refine ifF zbI ?_;refine ⟨_, rfl, tp, _, rfl, .inl (SqL.of zU), rfl, fl, qbl ?_ qq⟩
        show (!inV (V.bl false) [V.bl (ev hs rs c), V.bl (ev hs rs d)]) = (ev hs rs c && ev hs rs d)
        cases ev hs rs c <;> cases ev hs rs d <;> rfl
      | or c d =>
        refine ifF z9U ?_;refine ⟨_, rfl, rfl, _, rfl, ?_⟩;refine ifT rfl ?_;refine ⟨_, rfl, tp, _, rfl, .inl (SqL.of zU), rfl, fl, qbl ?_ qq⟩
        show inV (V.bl true) [V.bl (ev hs rs c), V.bl (ev hs rs d)] = (ev hs rs c || ev hs rs d)
        cases ev hs rs c <;> cases ev hs rs d <;> rfl
theorem z1Z (F : Fun K "_law_true" "_law_true" yz f fd) (T : Txt K mg) (hN : ∀ k sp, FnOk P w K mg base CX0 k f fd ["_law_condition", "_law_heads", "_law_row"] sp → Kn P w K mg base k "_law_true" ["_law_condition", "_law_heads", "_law_row"] sp) : ∀ n, FnOk P w K mg base CX0 n f fd ["_law_condition", "_law_heads", "_law_row"] (z3u K n)
  | 0 => ⟨fun vs H Q E h => by obtain ⟨v, hp, rp, hs, rs, c, rfl, _⟩ := h; rfl, fun A outer s H args us vs Q E hr he hb hv h => by
    obtain ⟨v, hp, rp, hs, rs, c, _, _, _, _, _, _, hz, _⟩ := h;have := c.size_pos;omega⟩
  | n + 1 => z3g F T n (hN n _ (z1Z F T hN n))

theorem z6x {α : Type} {xs : List α} {i : Int} (h0 : 0 ≤ i) (h1 : i < (xs.length : Int)) : ∃ (h : i.toNat < xs.length), atI xs i = some xs[i.toNat] := by
  have h : i.toNat < xs.length := by omega
  exact ⟨h, z4x h0 (List.getElem?_eq_getElem h)⟩
theorem kK {i n : Int} (h : 0 < n) : 0 ≤ i % n ∧ i % n < n := ⟨Int.emod_nonneg _ (by omega), Int.emod_lt_of_pos _ h⟩
theorem zaO {i : Int} (h0 : 0 ≤ i) (h1 : i < 6) : ∃ m ∈ nums, atI (nums.map V.int) i = some (.int m) := by
  obtain ⟨h, e⟩ := z6x (xs := nums.map V.int) h0 (by show i < 6; exact h1);refine ⟨nums[i.toNat]'(by simpa using h), List.getElem_mem _, ?_⟩;rw [e, List.getElem_map]
theorem z0J {hs : List Str} {i : Int} (hne : hs ≠ []) : ∃ s ∈ hs, atI (hs.map V.str) (i % (((hs.map V.str).length : Nat) : Int)) = some (.str s) := by
  have hl : 0 < hs.length := List.length_pos_iff.mpr hne;have hm : (0 : Int) < (((hs.map V.str).length : Nat) : Int) := by rw [List.length_map]; omega
  obtain ⟨a, b⟩ := kK (i := i) hm;obtain ⟨h, e⟩ := z6x (xs := hs.map V.str) a b;refine ⟨hs[(i % (((hs.map V.str).length : Nat) : Int)).toNat]'(by simpa using h), List.getElem_mem _, ?_⟩;rw [e, List.getElem_map]
def z3J (K : PySem.W.Frag) : Sp := fun vs H Q _ => ∃ (hp : Addr) (seed : Int) (hs : List Str), vs = [.ref hp, .int seed] ∧ H hp = some (.lst (hs.map V.str)) ∧ hs ≠ [] ∧
  ∀ (v : V) (c : Cond) (H' : Hp), zM H H' → jP H' c v → jD hs c → c.size ≤ 5 → Q v H'
theorem jn : FnScope ["_law_heads", "_law_seed", "_law_one", "_law_other", "_law_number", "_law_first", "_law_second", "_law_menu"] ["_law_heads", "_law_seed"] (zv yJ) := ⟨rfl, rfl, rfl, by decide +kernel, rfl, by decide +kernel, by decide +kernel⟩
theorem z3f (F : Fun K "_law_asking" "_law_asking" yJ f fd) (T : Txt K mg) : FnOk P w K mg base CX0 1 f fd ["_law_heads", "_law_seed"] (z3J K) := by
  refine F.ok jn (fun vs H Q E h => ?_) (fun cdv A outer s H vs Q E hr h => ?_)
  · obtain ⟨hp, seed, hs, rfl, _⟩ := h
    rfl
  obtain ⟨hp, seed, hs, rfl, hh, hne, q⟩ := h;have hlen : (0 : Int) < (((hs.map V.str).length : Nat) : Int) := by
    have := List.length_pos_iff.mpr hne;rw [List.length_map]; omega
  have tl : ∀ (x : Nat), x ≤ 20 → x ≤ sizeLine := fun x h => zt (by omega)
  obtain ⟨one, m1, e1⟩ := z0J (i := seed) hne;obtain ⟨other, m2, e2⟩ := z0J (i := seed / 3 + 1) hne;obtain ⟨num, m3, e3⟩ := zaO (kK (i := seed / 2) (n := 6) (by decide)).1 (kK (i := seed / 2) (n := 6) (by decide)).2;refine ⟨_, (zj (zu (i := 2) jn.nd rfl (Or.inl rfl) (zw zT (pv 0) (zr j8 (pv 1) (zI zK rfl T.len PySem.boot_len (zl (pv 0) zi))) (fun _ _ => rfl)))
    (zj (zu (i := 3) jn.nd rfl (Or.inl rfl) (zw zT (pv 0) (zr j8 (zr yW (zr yk (pv 1) zd) zd) (zI zK rfl T.len PySem.boot_len (zl (pv 0) zi))) (fun _ _ => rfl)))
    (zj (zu (i := 4) jn.nd rfl (Or.inl rfl) (zw zT (zV (zn zd (zn zd (z7h (z1g z0h zd) (zn zd (yd (z2U ⟨by decide, by decide, by decide⟩) (zn zd zi))))))) (zr j8 (zr yk (pv 1) zd) zd) (fun _ _ => rfl)))
    (zj (zu (i := 5) jn.nd rfl (Or.inl rfl) (zJ (zn zm (zl (pv 2) (zl (pv 4) zi)))))
    (zj (zu (i := 6) jn.nd rfl (Or.inl rfl) (zJ (zn zm (zl (pv 2) (zl (pv 3) zi)))))
    (zj (zu (i := 7) jn.nd rfl (Or.inl rfl) (zV (zl (pv 5) (zl (pv 6) (zS (zJ (zn zm (zS (zJ (zn zm (zl (pv 3) (zl (pv 4) zi)))) (zS (zJ (zn zm (zl (pv 5) zi))) zi)))) zi)))))
    (zj (zu (i := 7) jn.nd rfl (Or.inl rfl) (zr jR (pv 7) (zV (zS (zJ (zn zm (zl (pv 5) (zl (pv 6) zi)))) (zS (zJ (zn zm (zS (zJ (zn zm (zl (pv 4) (zl (pv 3) zi)))) zi))) zi)))))
    (zj (zu (i := 7) jn.nd rfl (Or.inl rfl) (zr jR (pv 7) (zV (zS (zJ (zn zm (zS (zJ (zn zm (zl (pv 2) (zl (pv 3) zi)))) (zS (zJ (zn zm (zl (pv 6) (zl (pv 5) zi)))) zi)))) zi))))
    (zj (zu (i := 7) jn.nd rfl (Or.inl rfl) (zr jR (pv 7) (zV (zS (zJ (zn zm (zl (pv 4) (zn zd zi)))) (zl (pv 6) (zS (zJ (zn zm (zl (pv 6) (zl (pv 5) zi)))) zi))))))
    (zq (zR (zw zT (pv 7) (zr j8 (zr yk (pv 1) zd) zd) (fun _ _ => rfl))))))))))))), ?_⟩
  refine ⟨_, rfl, _, rfl, _, rfl, hp, _, rfl, .inl (SqL.of hh), _, _, rfl, rfl, hlen, hp, _, _, _, rfl, rfl, SqL.of hh, e1, ?_⟩;refine ⟨_, rfl, _, rfl, _, _, rfl, rfl, ⟨by decide, by decide⟩, _, _, rfl, rfl, _, rfl, hp, _, rfl, .inl (SqL.of hh), _, _, rfl, rfl, hlen, hp, _, _, _, rfl, rfl, SqL.of hh, e2, ?_⟩;refine ⟨_, rfl, tl 6 (by decide), fun l0 f0 => ?_⟩;refine zc (upd _ l0 _) rfl f0 fun H0 n0 x0 => ?_
  replace x0 : H0 l0 = some (.lst (nums.map V.int)) := x0;refine ⟨_, rfl, _, _, rfl, rfl, ⟨by decide, by decide⟩, _, _, rfl, rfl, (by show (0 : Int) < 6; decide), l0, nums.map V.int, _, _, rfl, rfl, SqL.of x0, e3, ?_⟩;refine ⟨_, rfl, _, rfl, tl _ (by simp), fun pF f1 => ?_⟩;refine zc (upd _ pF _) rfl f1 fun H1 n1 x1 => ?_
  refine ⟨_, rfl, _, rfl, tl _ (by simp), fun pS f2 => ?_⟩;refine zc (upd _ pS _) rfl f2 fun H2 n2 x2 => ?_
  refine ⟨_, rfl, _, rfl, _, rfl, _, rfl, tl _ (by simp), fun p3 f3 => ?_⟩;refine zc (upd _ p3 _) rfl f3 fun H3 n3 x3 => ?_
  refine ⟨_, rfl, tl _ (by simp), fun p4 f4 => ?_⟩;refine zc (upd _ p4 _) rfl f4 fun H4 n4 x4 => ?_
  refine ⟨tl _ (by simp), fun p5 f5 => ?_⟩;refine zc (upd _ p5 _) rfl f5 fun H5 n5 x5 => ?_
  refine ⟨tl _ (by simp), fun l6 f6 => ?_⟩;refine zc (upd _ l6 _) rfl f6 fun H6 n6 x6 => ?_
  refine ⟨_, rfl, _, rfl, _, rfl, tl _ (by simp), fun p7 f7 => ?_⟩;refine zc (upd _ p7 _) rfl f7 fun H7 n7 x7 => ?_
  refine ⟨_, rfl, _, rfl, tl _ (by simp), fun p8 f8 => ?_⟩;refine zc (upd _ p8 _) rfl f8 fun H8 n8 x8 => ?_
  refine ⟨tl _ (by simp), fun p9 f9 => ?_⟩;refine zc (upd _ p9 _) rfl f9 fun H9 n9 x9 => ?_
  refine ⟨tl _ (by simp), fun l10 f10 => ?_⟩;refine zc (upd _ l10 _) rfl f10 fun H10 n10 x10 => ?_
  refine ⟨l6, l10, _, _, rfl, rfl, (n10 _ _ (n9 _ _ (n8 _ _ (n7 _ _ x6)))), x10, tl _ (by simp), fun l11 f11 => ?_⟩;refine zc (upd _ l11 _) rfl f11 fun H11 n11 x11 => ?_
  refine ⟨_, rfl, _, rfl, _, rfl, tl _ (by simp), fun p12 f12 => ?_⟩;refine zc (upd _ p12 _) rfl f12 fun H12 n12 x12 => ?_
  refine ⟨_, rfl, _, rfl, tl _ (by simp), fun p13 f13 => ?_⟩;refine zc (upd _ p13 _) rfl f13 fun H13 n13 x13 => ?_
  refine ⟨tl _ (by simp), fun p14 f14 => ?_⟩;refine zc (upd _ p14 _) rfl f14 fun H14 n14 x14 => ?_
  refine ⟨tl _ (by simp), fun l15 f15 => ?_⟩;refine zc (upd _ l15 _) rfl f15 fun H15 n15 x15 => ?_
  refine ⟨l11, l15, _, _, rfl, rfl, (n15 _ _ (n14 _ _ (n13 _ _ (n12 _ _ x11)))), x15, tl _ (by simp), fun l16 f16 => ?_⟩;refine zc (upd _ l16 _) rfl f16 fun H16 n16 x16 => ?_
  refine ⟨_, rfl, _, rfl, tl _ (by simp), fun p17 f17 => ?_⟩;refine zc (upd _ p17 _) rfl f17 fun H17 n17 x17 => ?_
  refine ⟨_, rfl, _, rfl, _, rfl, tl _ (by simp), fun p18 f18 => ?_⟩;refine zc (upd _ p18 _) rfl f18 fun H18 n18 x18 => ?_
  refine ⟨tl _ (by simp), fun l19 f19 => ?_⟩;refine zc (upd _ l19 _) rfl f19 fun H19 n19 x19 => ?_
  refine ⟨l16, l19, _, _, rfl, rfl, (n19 _ _ (n18 _ _ (n17 _ _ x16))), x19, tl _ (by simp), fun l20 f20 => ?_⟩;refine zc (upd _ l20 _) rfl f20 fun H20 n20 x20 => ?_
  have y1 := (n20 _ _ (n19 _ _ (n18 _ _ (n17 _ _ (n16 _ _ (n15 _ _ (n14 _ _ (n13 _ _ (n12 _ _ (n11 _ _ (n10 _ _ (n9 _ _ (n8 _ _ (n7 _ _ (n6 _ _ (n5 _ _ (n4 _ _ (n3 _ _ (n2 _ _ x1)))))))))))))))))));have y2 := (n20 _ _ (n19 _ _ (n18 _ _ (n17 _ _ (n16 _ _ (n15 _ _ (n14 _ _ (n13 _ _ (n12 _ _ (n11 _ _ (n10 _ _ (n9 _ _ (n8 _ _ (n7 _ _ (n6 _ _ (n5 _ _ (n4 _ _ (n3 _ _ x2))))))))))))))))));have y3 := (n20 _ _ (n19 _ _ (n18 _ _ (n17 _ _ (n16 _ _ (n15 _ _ (n14 _ _ (n13 _ _ (n12 _ _ (n11 _ _ (n10 _ _ (n9 _ _ (n8 _ _ (n7 _ _ (n6 _ _ (n5 _ _ (n4 _ _ x3)))))))))))))))));have y4 := (n20 _ _ (n19 _ _ (n18 _ _ (n17 _ _ (n16 _ _ (n15 _ _ (n14 _ _ (n13 _ _ (n12 _ _ (n11 _ _ (n10 _ _ (n9 _ _ (n8 _ _ (n7 _ _ (n6 _ _ (n5 _ _ x4))))))))))))))));have y5 := (n20 _ _ (n19 _ _ (n18 _ _ (n17 _ _ (n16 _ _ (n15 _ _ (n14 _ _ (n13 _ _ (n12 _ _ (n11 _ _ (n10 _ _ (n9 _ _ (n8 _ _ (n7 _ _ (n6 _ _ x5)))))))))))))));have y6 := (n20 _ _ (n19 _ _ (n18 _ _ (n17 _ _ (n16 _ _ (n15 _ _ (n14 _ _ (n13 _ _ (n12 _ _ (n11 _ _ (n10 _ _ (n9 _ _ (n8 _ _ (n7 _ _ x6))))))))))))));have y7 := (n20 _ _ (n19 _ _ (n18 _ _ (n17 _ _ (n16 _ _ (n15 _ _ (n14 _ _ (n13 _ _ (n12 _ _ (n11 _ _ (n10 _ _ (n9 _ _ (n8 _ _ x7)))))))))))));have y8 := (n20 _ _ (n19 _ _ (n18 _ _ (n17 _ _ (n16 _ _ (n15 _ _ (n14 _ _ (n13 _ _ (n12 _ _ (n11 _ _ (n10 _ _ (n9 _ _ x8))))))))))));have y9 := (n20 _ _ (n19 _ _ (n18 _ _ (n17 _ _ (n16 _ _ (n15 _ _ (n14 _ _ (n13 _ _ (n12 _ _ (n11 _ _ (n10 _ _ x9)))))))))));have y10 := (n20 _ _ (n19 _ _ (n18 _ _ (n17 _ _ (n16 _ _ (n15 _ _ (n14 _ _ (n13 _ _ (n12 _ _ (n11 _ _ x10))))))))));have y11 := (n20 _ _ (n19 _ _ (n18 _ _ (n17 _ _ (n16 _ _ (n15 _ _ (n14 _ _ (n13 _ _ (n12 _ _ x11)))))))));have y12 := (n20 _ _ (n19 _ _ (n18 _ _ (n17 _ _ (n16 _ _ (n15 _ _ (n14 _ _ (n13 _ _ x12))))))));have y13 := (n20 _ _ (n19 _ _ (n18 _ _ (n17 _ _ (n16 _ _ (n15 _ _ (n14 _ _ x13)))))));have y14 := (n20 _ _ (n19 _ _ (n18 _ _ (n17 _ _ (n16 _ _ (n15 _ _ x14))))));have y15 := (n20 _ _ (n19 _ _ (n18 _ _ (n17 _ _ (n16 _ _ x15)))));have y16 := (n20 _ _ (n19 _ _ (n18 _ _ (n17 _ _ x16))));have y17 := (n20 _ _ (n19 _ _ (n18 _ _ x17)));have y18 := (n20 _ _ (n19 _ _ x18));have y19 := (n20 _ _ x19);have sall := n0.trans (n1.trans (n2.trans (n3.trans (n4.trans (n5.trans (n6.trans (n7.trans (n8.trans (n9.trans (n10.trans (n11.trans (n12.trans (n13.trans (n14.trans (n15.trans (n16.trans (n17.trans (n18.trans (n19.trans (n20))))))))))))))))))));have cF : jP H20 (.less (.nm one) (.nu num)) (.ref pF) := ⟨pF, rfl, y1⟩;have cS : jP H20 (.same (.nm one) (.nm other)) (.ref pS) := ⟨pS, rfl, y2⟩;have okF : jD hs (.less (.nm one) (.nu num)) := ⟨m1, m3⟩;have okS : jD hs (.same (.nm one) (.nm other)) := ⟨m1, m2⟩;have one1 : (1 : Int) ∈ nums := by decide +kernel
  obtain ⟨i0, i1⟩ := kK (i := seed / 5) (n := 9) (by decide);refine ⟨_, rfl, _, rfl, _, _, rfl, rfl, ⟨by decide, by decide⟩, _, _, rfl, rfl, (by show (0 : Int) < 9; decide), ?_⟩;obtain ⟨ix, hix⟩ : ∃ ix, seed / 5 % 9 = ix := ⟨_, rfl⟩
  rw [hix] at i0 i1;have cases9 : ix = 0 ∨ ix = 1 ∨ ix = 2 ∨ ix = 3 ∨ ix = 4 ∨ ix = 5 ∨ ix = 6 ∨ ix = 7 ∨ ix = 8 := by omega
  rcases cases9 with rfl | rfl | rfl | rfl | rfl | rfl | rfl | rfl | rfl
  · exact ⟨l20, _, _, _, rfl, rfl, SqL.of x20, (by show atI _ (seed / 5 % 9) = _; rw [hix]; rfl), q _ _ _ sall cF okF (by simp [Cond.size])⟩
  · exact ⟨l20, _, _, _, rfl, rfl, SqL.of x20, (by show atI _ (seed / 5 % 9) = _; rw [hix]; rfl), q _ _ _ sall cS okS (by simp [Cond.size])⟩
  · exact ⟨l20, _, _, _, rfl, rfl, SqL.of x20, (by show atI _ (seed / 5 % 9) = _; rw [hix]; rfl), q _ (.an (.same (.nm other) (.nu num)) (.no (.less (.nm one) (.nu num)))) _ sall ⟨_, _, _, rfl, y5, ⟨_, rfl, y3⟩, ⟨_, _, rfl, y4, cF⟩⟩ ⟨⟨m2, m3⟩, okF⟩ (by simp only [Cond.size]; decide)⟩
  · exact ⟨l20, _, _, _, rfl, rfl, SqL.of x20, (by show atI _ (seed / 5 % 9) = _; rw [hix]; rfl), q _ (.or (.less (.nm one) (.nu num)) (.same (.nm one) (.nm other))) _ sall ⟨_, _, _, rfl, y7, cF, cS⟩ ⟨okF, okS⟩ (by simp only [Cond.size]; decide)⟩
  · exact ⟨l20, _, _, _, rfl, rfl, SqL.of x20, (by show atI _ (seed / 5 % 9) = _; rw [hix]; rfl), q _ (.no (.less (.nu num) (.nm other))) _ sall ⟨_, _, rfl, y9, ⟨_, rfl, y8⟩⟩ ⟨m3, m2⟩ (by simp only [Cond.size]; decide)⟩
  · exact ⟨l20, _, _, _, rfl, rfl, SqL.of x20, (by show atI _ (seed / 5 % 9) = _; rw [hix]; rfl), q _ (.an (.less (.nm one) (.nm other)) (.or (.same (.nm one) (.nm other)) (.less (.nm one) (.nu num)))) _ sall ⟨_, _, _, rfl, y14, ⟨_, rfl, y12⟩, ⟨_, _, _, rfl, y13, cS, cF⟩⟩ ⟨⟨m1, m2⟩, okS, okF⟩ (by simp only [Cond.size]; decide)⟩
  · exact ⟨l20, _, _, _, rfl, rfl, SqL.of x20, (by show atI _ (seed / 5 % 9) = _; rw [hix]; rfl), q _ (.same (.nu num) (.nu 1)) _ sall ⟨_, rfl, y17⟩ ⟨m3, one1⟩ (by simp only [Cond.size]; decide)⟩
  · exact ⟨l20, _, _, _, rfl, rfl, SqL.of x20, (by show atI _ (seed / 5 % 9) = _; rw [hix]; rfl), q _ _ _ sall cS okS (by simp [Cond.size])⟩
  · exact ⟨l20, _, _, _, rfl, rfl, SqL.of x20, (by show atI _ (seed / 5 % 9) = _; rw [hix]; rfl), q _ (.an (.same (.nm one) (.nm other)) (.less (.nm one) (.nu num))) _ sall ⟨_, _, _, rfl, y18, cS, cF⟩ ⟨okS, okF⟩ (by simp only [Cond.size]; decide)⟩

theorem kZ {H H' : Hp} {np : Addr} {fs : List (Addr × List Int)} (hnp : H np = none) (n : zM H H') (x : H' np = some (.lst (refs fs))) (hm : ∀ r ∈ fs, H r.1 = some (.lst (r.2.map V.int))) : jg H' np fs :=
  ⟨x, fun r m => ⟨zy (hm r m) hnp, n _ _ (hm r m)⟩⟩
theorem z0I {α : Type} {x y z u : α} {r : List α} : atI (x :: y :: z :: u :: r) 3 = some u := jr (j := 3) rfl
theorem z0Y {α : Type} (f : α → Bool) (xs : List α) {i : Nat} {x : α} (h : xs[i]? = some x) : (xs.take (i + 1)).filter f = (xs.take i).filter f ++ (if f x = true then [x] else []) := by
  rw [List.take_add_one, h, List.filter_append]
  congr 1
  show List.filter f [x] = _
  rw [List.filter_cons]
  rfl
theorem z8d {hs : List Str} {c : Cond} (rs : List (Addr × List Int)) : (rs.filter fun r => ev hs r.2 c).map (·.2) = (rs.map (·.2)).filter fun r => ev hs r c := by
  rw [List.filter_map]
  rfl
def z1V (K : PySem.W.Frag) : Sp := fun vs H Q _ => ∃ (th : Str → List Str) (tr : Str → List (List Int)) (q : Qn) (v : V) (seed : Int), vs = [v, .int seed] ∧ TabOk th tr ∧ kh th tr H v q ∧ okQ th q ∧ (zz q).length ≤ 4000000 ∧ (rowsOf th tr q).length ≤ 100000 ∧
  ∀ (v' : V) (c : Cond) (H' : Hp), zM H H' → kh th tr H' v' (.pick c q) → jD (zo th q) c → c.size ≤ 6 → Q v' H'
theorem yy : FnScope ["_law_state", "_law_seed", "_law_condition", "_law_rows", "_law_line"] ["_law_state", "_law_seed"] (zv yf) := ⟨rfl, rfl, rfl, by decide +kernel, rfl, by decide +kernel, by decide +kernel⟩
theorem z3t (F : Fun K "_law_picked" "_law_picked" yf f fd) (T : Txt K mg) (C_law_asking : Kn P w K mg base 1 "_law_asking" ["_law_heads", "_law_seed"] (z3J K)) (C_law_true : Kn P w K mg base 7 "_law_true" ["_law_condition", "_law_heads", "_law_row"] (z3u K 7)) (C_law_spelt : Kn P w K mg base 7 "_law_spelt" ["_law_condition"] (z20 K 7)) :
    FnOk P w K mg base CX0 8 f fd ["_law_state", "_law_seed"] (z1V K) := by
  refine F.ok yy (fun vs H Q E h => ?_) (fun cdv A outer s H vs Q E hr h => ?_)
  · obtain ⟨th, tr, q, v, seed, rfl, _⟩ := h
    rfl
  obtain ⟨th, tr, q, v, seed, rfl, TT, hst, hok, hli, hro, fin⟩ := h;obtain ⟨p, qv, hp, rp, rs, rfl, h1, h2, h3, h4, h5⟩ := hst;obtain ⟨hne, hnd⟩ := jU TT hok;have hnl := ji TT hok;have hlr : (refs rs).length = rs.length := List.length_map _;have hrl : rs.length ≤ 100000 := by rw [← h5, List.length_map] at hro; exact hro
  have hu := z6Z hr;refine ⟨_, (zj (zu (i := 2) yy.nd rfl (Or.inr rfl) (zX C_law_asking hr.m rfl (zF (zw zx (pv 0) zd (fun _ _ => rfl)) (zl (pv 1) zi))))
    (zj (yD (j := 3) rfl yy.nd rfl (Or.inl rfl) (CompSc.of (sx := zv yf) (NX := ["_law_state", "_law_seed", "_law_condition", "_law_rows", "_law_line"]) (fr := ["_law_condition", "_law_state"]) (ix := [2, 0]) rfl rfl (by decide +kernel)) (kc (zw zx (pv 0) zd (fun _ _ => rfl))) (fun _ _ _ _ _ _ => (z4V (yU (zX C_law_true hr.m rfl (zl (pv 1) (zF (zw (z4X (K := K) rfl) (pv 2) zd (fun _ _ => rfl)) (zl (pv 0) zi))))))) (fun _ _ _ _ _ _ => (pv 0)))
    (zj (kN (z1O (zG (z5n hu) (pv 3) (zV zi) (zN _)) (zG z3e (zr j8 (pv 1) zd) zd (zN _)))
      (zj (zu (i := 2) yy.nd rfl (Or.inr rfl) (zJ (zn zm (zl (pv 2) zi))))
      (zq (zu (i := 3) yy.nd rfl (Or.inl rfl) (yl z2b rfl T.list PyProof.Rows.boot_list (zF (zw zx (pv 0) zd (fun _ _ => rfl)) zi)))))
      zQ)
    (zj (zu (i := 4) yy.nd rfl (Or.inl rfl) (zr zp (zr zp (zr zp (zr zp zm (zX C_law_spelt hr.m rfl (zl (pv 2) zi))) zm) (zw zx (pv 0) zd (fun _ _ => rfl))) zm))
    (zq (zR (zJ (zS (zJ (zn zm (zl (pv 2) (zF (zw zx (pv 0) zd (fun _ _ => rfl)) zi)))) (zl (pv 4) (zF (zw zx (pv 0) zd (fun _ _ => rfl)) (zl (pv 3) zi))))))))))), ?_⟩
  refine ⟨_, rfl, p, _, _, _, rfl, rfl, SqT.of h1, yO, _, rfl, hp, seed, zo th q, rfl, h3, hne, fun cv c H1 s1 hc sm sz => ?_⟩;have g1 := s1 _ _ h1;have g4 := h4.same s1;refine ⟨_, rfl, p, _, _, _, rfl, rfl, SqT.of g1, z0I, rp, rfl, ⟨_, SqL.of g4.1⟩, ?_⟩;refine z1p (xs := refs rs) (fun i ys H' => zM H1 H' ∧ ys = refs ((rs.take i).filter fun r => ev (zo th q) r.2 c)) ⟨zM.refl _, rfl⟩ ?_ ?_ ?_
  · rintro i ys H' hi ⟨sm', rfl⟩;refine ⟨SqL.of (sm' _ _ g4.1), jj ?_⟩;have := List.length_filter_le (fun r : Addr × List Int => ev (zo th q) r.2 c) (rs.take i);rw [List.length_map];rw [List.length_take] at this;omega
  · rintro i x ys H' hi ⟨sm', rfl⟩;have hir : i < rs.length := by
      have := (List.getElem?_eq_some_iff.mp hi).1
      rwa [hlr] at this
    rw [z0g hir] at hi;cases hi;have t := s1.trans sm';have hrow := (g4.2 _ (List.getElem_mem hir)).2;have hlen : rs[i].2.length = (zo th q).length := jO TT hok _ (by rw [← h5]; exact List.mem_map.mpr ⟨_, List.getElem_mem hir, rfl⟩);refine ⟨_, rfl, _, rfl, p, _, _, _, rfl, rfl, SqT.of (t _ _ h1), yO, _, rfl, cv, hp, rs[i].1, zo th q, rs[i].2, c, rfl, hc.same sm', sm, t _ _ h3, sm' _ _ hrow, hlen, by omega, fun H3 s3 => ⟨_, rfl, ?_⟩⟩;have ft := z0Y (fun r : Addr × List Int => ev (zo th q) r.2 c) rs (List.getElem?_eq_getElem hir);cases hev : ev (zo th q) rs[i].2 c with
    | true =>
      refine ifT rfl ?_;refine ⟨_, rfl, sm'.trans s3, ?_⟩;rw [ft, hev, if_pos rfl];simp [refs]
    | false =>
      refine ifF rfl ?_;refine ⟨sm'.trans s3, ?_⟩;rw [ft, hev];simp
  · rintro ys H' ⟨sm', rfl⟩ np hnp;rw [hlr, List.take_length];refine zc (upd _ np _) rfl hnp fun H2 n2 x2 => ?_
    have rp0 := kZ hnp n2 x2 fun r m => sm' _ _ (g4.2 r (List.mem_filter.mp m).1).2
    have s2 := s1.trans (sm'.trans n2);have hc2 := hc.same (sm'.trans n2);have g2 := s2 _ _ h1;have j2 := h4.same s2;refine ⟨fun σ H3 => ∃ (cv' : V) (c' : Cond) (np' : Addr) (fs : List (Addr × List Int)), σ = [some (.ref p), some (.int seed), some cv', some (.ref np'), none] ∧ zM H H3 ∧ jP H3 c' cv' ∧ jD (zo th q) c' ∧ c'.size ≤ 6 ∧ jg H3 np' fs ∧ fs.map (·.2) = rowsOf th tr (.pick c' q), ?_, ?_⟩
    · refine ⟨_, rfl, zt (by show 0 ≤ _; decide), fun ep hep => ?_⟩;refine zc (upd _ ep _) rfl hep fun H3 n3 x3 => ?_
      refine ⟨np, ep, _, rfl, rfl, SqL.of (n3 _ _ x2), SqL.of x3, _, rfl, _, ⟨_, rfl, _, _, rfl, rfl, (by show (0 : Int) < 3; decide), _, _, rfl, rfl, _, rfl, rfl, rfl⟩, ?_⟩;have s3 := s2.trans n3;refine yu (fun hb => ?_) (fun hb => ?_)
      · rw [Bool.and_eq_true] at hb;have hnil : (rs.filter fun r => ev (zo th q) r.2 c) = [] := by
          have := hb.1;rw [List.isEmpty_iff] at this;exact List.map_eq_nil_iff.mp this
        refine ⟨_, rfl, zt (by show 2 ≤ _; decide), fun kp hkp => ?_⟩;refine zc (upd _ kp _) rfl hkp fun H4 n4 x4 => ?_
        have s4 := s3.trans n4;refine ⟨_, rfl, p, _, _, _, rfl, rfl, SqT.of (s4 _ _ h1), z0I, rp, _, rfl, .inl (SqL.of (h4.same s4).1), fun dp hdp => ?_⟩;have j4 := h4.same s4;refine zc (upd _ dp _) rfl hdp fun H5 n5 x5 => ?_
        have rp1 := kZ hdp n5 x5 fun r m => (j4.2 r m).2
        refine ⟨_, .no c, dp, rs, rfl, s4.trans n5, ⟨kp, cv, rfl, n5 _ _ x4, hc2.same (n3.trans (n4.trans n5))⟩, sm, by simp only [Cond.size]; omega, rp1, ?_⟩
        show _ = (rowsOf th tr q).filter fun r => ev (zo th q) r (.no c)
        rw [h5, eq_comm, List.filter_eq_self];intro r hr';rw [← h5] at hr';obtain ⟨x, hx, rfl⟩ := List.mem_map.mp hr';have := List.filter_eq_nil_iff.mp hnil x hx
        show (!ev (zo th q) x.2 c) = true
        simpa using this
      · refine ⟨_, c, np, _, rfl, s3, hc2.same n3, sm, by omega, rp0.same n3, ?_⟩;rw [z8d, h5]
        rfl
    · rintro σ H3 ⟨cv', c', np', fs, rfl, s3, hc3, sm3, sz3, rp3, e3⟩;have ls := kB hnl sm3;have g3 := s3 _ _ h1;refine ⟨_, rfl, cv', zo th q, c', rfl, hc3, sm3, hnl, by omega, by omega, fun H4 s4 => ?_⟩;have g4' := s4 _ _ g3;refine ⟨_, _, rfl, rfl, by (walk_at "sl"), _, _, rfl, rfl, by (walk_at "sl"), _, rfl, p, _, _, _, rfl, rfl, SqT.of g4', yE, _, _, rfl, rfl, by (walk_at "sl"), _, _, rfl, rfl, by (walk_at "sl"), ?_⟩;refine ⟨_, rfl, _, rfl, p, _, _, _, rfl, rfl, SqT.of g4', yc, zt (by show 3 ≤ _; decide), fun qp hqp => ?_⟩;refine zc (upd _ qp _) rfl hqp fun H5 n5 x5 => ?_
      refine ⟨_, rfl, _, rfl, p, _, _, _, rfl, rfl, SqT.of (n5 _ _ g4'), yO, _, rfl, zt (by show 4 ≤ _; decide), fun sp hsp => ?_⟩;refine zc (upd _ sp _) rfl hsp fun H6 n6 x6 => ?_
      have s46 := s4.trans (n5.trans n6);have s6 := s3.trans s46;exact fin _ c' _ s6 ⟨sp, _, hp, np', fs, rfl, x6, ⟨qp, cv', qv, rfl, n6 _ _ x5, hc3.same s46, h2.same s6⟩, s6 _ _ h3, rp3.same s46, e3⟩ sm3 sz3

theorem z1r {xs : List V} {m : Int} (h : 0 ≤ m) : z1C xs none (some m) = xs.take m.toNat := by
  unfold z1C;rw [HT.sIx_none, List.drop_zero, Nat.sub_zero];have e : HT.sIx xs.length xs.length (some m) = min m.toNat xs.length := by
    show (if m < 0 then (m + (xs.length : Int)).toNat else min m.toNat xs.length) = _
    rw [if_neg (by omega)]
  rw [e, List.take_eq_take_iff];omega
theorem z6Y {xs : List Int} {i : Int} (hx : ∀ m ∈ xs, m ∈ kG) (h0 : 0 ≤ i) (h1 : i < (xs.length : Int)) : ∃ m ∈ kG, atI (xs.map V.int) i = some (.int m) := by
  obtain ⟨h, e⟩ := z6x (xs := xs.map V.int) h0 (by rw [List.length_map]; exact h1);have h' : i.toNat < xs.length := by simpa using h
  refine ⟨xs[i.toNat], hx _ (List.getElem_mem _), ?_⟩;rw [e, List.getElem_map]
def z7e : List Int := [9, 1, 5, 3, 12, 7, 0, 10 ^ 9]
def z7o : List Int := [4, 0, 2, 3, 8, 7, 10 ^ 9]
theorem z8V : ∀ m ∈ z7e, m ∈ kG := by decide +kernel
theorem z8Y : ∀ m ∈ z7o, m ∈ kG := by decide +kernel
theorem zbv : (z7e.length : Int) = 8 := rfl
theorem zbz : (z7o.length : Int) = 7 := rfl
theorem z95 (i : Int) : ∃ m ∈ kG, atI (z7e.map V.int) (i % 8) = some (.int m) := z6Y z8V (kK (by decide)).1 (by rw [zbv]; exact (kK (by decide)).2)
theorem z91 (i : Int) : ∃ m ∈ kG, atI (z7o.map V.int) (i % 7) = some (.int m) := z6Y z8Y (kK (by decide)).1 (by rw [zbz]; exact (kK (by decide)).2)
theorem zcd {H0 : Hp} {l0 : Addr} (x0 : H0 l0 = some (HO.lst [V.int 9, V.int 1, V.int 5, V.int 3, V.int 12, V.int 7, V.int 0, V.int ((10 : Int) ^ (9 : Int).toNat)])) : H0 l0 = some (.lst (z7e.map V.int)) := x0
theorem zcg {H0 : Hp} {l0 : Addr} (x0 : H0 l0 = some (HO.lst [V.int 4, V.int 0, V.int 2, V.int 3, V.int 8, V.int 7, V.int ((10 : Int) ^ (9 : Int).toNat)])) : H0 l0 = some (.lst (z7o.map V.int)) := x0
theorem z4r : ∀ m ∈ kG, 0 ≤ m := by decide +kernel
theorem z5D {m : Int} (h : m ∈ kG) : z9d (.int m) (toString m) := .inl ⟨m, rfl, (kX m h).2, rfl⟩
def z1N (K : PySem.W.Frag) : Sp := fun vs H Q _ => ∃ (th : Str → List Str) (tr : Str → List (List Int)) (q : Qn) (v : V) (seed : Int), vs = [v, .int seed] ∧ kh th tr H v q ∧ (zz q).length ≤ 4000000 ∧
  ∀ (v' : V) (q' : Qn) (H' : Hp), zM H H' → kh th tr H' v' q' → (∃ n ∈ kG, q' = .first n q ∨ ∃ m ∈ kG, q' = .first m (.first n q)) → Q v' H'
theorem z4q {H : Hp} {rp : Addr} {rs : List (Addr × List Int)} (n : Nat) (h : jg H rp rs) : ∀ r ∈ rs.take n, H r.1 = some (.lst (r.2.map V.int)) := fun r m => (h.2 r (List.mem_of_mem_take m)).2
theorem jy : FnScope ["_law_state", "_law_seed", "_law_many", "_law_line", "_law_question", "_law_rows", "_law_more"] ["_law_state", "_law_seed"] (zv yI) := ⟨rfl, rfl, rfl, by decide +kernel, rfl, by decide +kernel, by decide +kernel⟩
theorem z3B (F : Fun K "_law_headed" "_law_headed" yI f fd) (T : Txt K mg) : FnOk P w K mg base CX0 1 f fd ["_law_state", "_law_seed"] (z1N K) := by
  refine F.ok jy (fun vs H Q E h => ?_) (fun cdv A outer s H vs Q E hr h => ?_)
  · obtain ⟨th, tr, q, v, seed, rfl, _⟩ := h
    rfl
  obtain ⟨th, tr, q, v, seed, rfl, hst, hli, fin⟩ := h;obtain ⟨p, qv, hp, rp, rs, rfl, h1, h2, h3, h4, h5⟩ := hst;obtain ⟨m, mm, e1⟩ := z95 (seed / 2);obtain ⟨m', mm', e2⟩ := z91 (seed / 16 + seed);have ll := (kX m mm).1;have ll' := (kX m' mm').1;have p0 := z4r m mm;have p0' := z4r m' mm';refine ⟨_, (zj (zu (i := 2) jy.nd rfl (Or.inl rfl) (zw zT (zV (zn zd (zn zd (zn zd (zn zd (zn zd (zn zd (zn zd (yd (z2U ⟨by decide, by decide, by decide⟩) zi))))))))) (zr j8 (zr yk (pv 1) zd) zd) (fun _ _ => rfl)))
    (zj (zu (i := 3) jy.nd rfl (Or.inl rfl) (zr zp (zr zp (zr zp (zr zp zm (yl z1u rfl T.str PyProof.Rows.boot_str (zl (pv 2) zi))) zm) (zw zx (pv 0) zd (fun _ _ => rfl))) zm))
    (zj (zu (i := 4) jy.nd rfl (Or.inl rfl) (zJ (zn zm (zl (pv 2) (zF (zw zx (pv 0) zd (fun _ _ => rfl)) zi)))))
    (zj (zu (i := 5) jy.nd rfl (Or.inl rfl) (jh yB (zw zx (pv 0) zd (fun _ _ => rfl)) jF (jq (pv 2))))
    (zj (jc (zG jm (zr j8 (pv 1) zd) zd (zN _))
      (zj (zu (i := 6) jy.nd rfl (Or.inl rfl) (zw zT (zV (zn zd (zn zd (zn zd (zn zd (zn zd (zn zd (yd (z2U ⟨by decide, by decide, by decide⟩) zi)))))))) (zr j8 (zr yW (zr yk (pv 1) zd) (pv 1)) zd) (fun _ _ => rfl)))
      (zj (zu (i := 3) jy.nd rfl (Or.inl rfl) (zr zp (zr zp (zr zp (zr zp zm (yl z1u rfl T.str PyProof.Rows.boot_str (zl (pv 6) zi))) zm) (pv 3)) zm))
      (zj (zu (i := 4) jy.nd rfl (Or.inl rfl) (zJ (zn zm (zl (pv 6) (zl (pv 4) zi)))))
      (zq (zu (i := 5) jy.nd rfl (Or.inl rfl) (jh yB (pv 5) jF (jq (pv 6))))))))
      zQ)
    (zq (zR (zJ (zl (pv 4) (zl (pv 3) (zF (zw zx (pv 0) zd (fun _ _ => rfl)) (zl (pv 5) zi)))))))))))), ?_⟩
  refine ⟨zt (by show 8 ≤ _; decide), fun l0 f0 => ?_⟩;refine zc (upd _ l0 _) rfl f0 fun H0 n0 x0 => ?_
  replace x0 := zcd x0;refine ⟨_, rfl, _, _, rfl, rfl, ⟨by decide, by decide⟩, _, _, rfl, rfl, (by show (0 : Int) < 8; decide), l0, _, _, _, rfl, rfl, SqL.of x0, e1, ?_⟩;refine ⟨_, rfl, _, _, rfl, z5D mm, _, _, rfl, rfl, by (walk_at "sl"), _, _, rfl, rfl, by (walk_at "sl"), _, rfl, p, _, _, _, rfl, rfl, SqT.of (n0 _ _ h1), yE, _, _, rfl, rfl, by (walk_at "sl"), _, _, rfl, rfl, by (walk_at "sl"), ?_⟩;refine ⟨_, rfl, _, rfl, p, _, _, _, rfl, rfl, SqT.of (n0 _ _ h1), yc, zt (by show 3 ≤ _; decide), fun q1 f1 => ?_⟩;refine zc (upd _ q1 _) rfl f1 fun H1 n1 x1 => ?_
  have s1 := n0.trans n1;have j1 := h4.same s1;refine ⟨_, rfl, p, _, _, _, rfl, rfl, SqT.of (s1 _ _ h1), z0I, _, rfl, _, rfl, rp, _, rfl, SqL.of j1.1, fun r2 f2 => ?_⟩;rw [z1r p0, ← List.map_take];refine zc (upd _ r2 _) rfl f2 fun H2 n2 x2 => ?_
  have s2 := s1.trans n2;have w2 := kZ f2 n2 x2 (z4q _ j1);have qa2 : QAt H2 (.first m q) (.ref q1) := ⟨q1, qv, rfl, n2 _ _ x1, h2.same s2⟩;have er2 : (rs.take m.toNat).map (·.2) = rowsOf th tr (.first m q) := by
    rw [List.map_take, h5]
    rfl
  have hln : (zz (.first m q)).length ≤ 4000100 := by simp only [zz]; (walk_at "sl")
  refine ⟨_, rfl, _, _, rfl, rfl, (by show (0 : Int) < 2; decide), rfl, _, rfl, ?_⟩;refine yu (fun hb => ?_) (fun hb => ?_)
  · refine ⟨zt (by show 7 ≤ _; decide), fun l3 f3 => ?_⟩;refine zc (upd _ l3 _) rfl f3 fun H3 n3 x3 => ?_
    replace x3 := zcg x3;refine ⟨_, rfl, _, _, rfl, rfl, ⟨by decide, by decide⟩, _, rfl, _, _, rfl, rfl, _, _, rfl, rfl, (by show (0 : Int) < 7; decide), l3, _, _, _, rfl, rfl, SqL.of x3, e2, ?_⟩;refine ⟨_, rfl, _, _, rfl, z5D mm', _, _, rfl, rfl, by (walk_at "sl"), _, _, rfl, rfl, by (walk_at "sl"), _, rfl, _, (zz (.first m q)), rfl, rfl, by (walk_at "sl"), _, _, rfl, rfl, by (walk_at "sl"), ?_⟩;refine ⟨_, rfl, _, rfl, zt (by show 3 ≤ _; decide), fun q4 f4 => ?_⟩;refine zc (upd _ q4 _) rfl f4 fun H4 n4 x4 => ?_
    have s24 := n3.trans n4;have w4 := w2.same s24;refine ⟨_, rfl, _, rfl, _, rfl, r2, _, rfl, SqL.of w4.1, fun r5 f5 => ?_⟩;rw [z1r p0', ← List.map_take];refine zc (upd _ r5 _) rfl f5 fun H5 n5 x5 => ?_
    have w5 := kZ f5 n5 x5 (z4q _ w4);have s25 := s24.trans n5;have s5 := s2.trans s25;refine ⟨_, rfl, _, rfl, _, rfl, p, _, _, _, rfl, rfl, SqT.of (s5 _ _ h1), yO, _, rfl, zt (by show 4 ≤ _; decide), fun sp f6 => ?_⟩;refine zc (upd _ sp _) rfl f6 fun H6 n6 x6 => ?_
    have s6 := s5.trans n6;refine fin _ (.first m' (.first m q)) _ s6 ⟨sp, _, hp, r5, _, rfl, x6, ⟨q4, _, rfl, n6 _ _ (n5 _ _ x4), qa2.same (s25.trans n6)⟩, s6 _ _ h3, w5.same n6, ?_⟩ ⟨m, mm, .inr ⟨m', mm', rfl⟩⟩;rw [List.map_take, er2]
    rfl
  · refine ⟨_, rfl, _, rfl, _, rfl, p, _, _, _, rfl, rfl, SqT.of (s2 _ _ h1), yO, _, rfl, zt (by show 4 ≤ _; decide), fun sp f6 => ?_⟩;refine zc (upd _ sp _) rfl f6 fun H6 n6 x6 => ?_
    have s6 := s2.trans n6;exact fin _ (.first m q) _ s6 ⟨sp, _, hp, r2, _, rfl, x6, qa2.same n6, s6 _ _ h3, w2.same n6, er2⟩ ⟨m, mm, .inl rfl⟩

theorem z7m {th : Str → List Str} {tr : Str → List (List Int)} {H H' : Hp} {sp qp hp np x y : Addr} {qo qt : Qn} {qv rv : V} {fs gs : List (Addr × List Int)} (s : zM H H') (hsp : H' sp = some (.tup [.ref qp, .str (zz (.both qo qt)), .ref hp, .ref np])) (hqp : H' qp = some (.tup [.str "both", qv, rv])) (h1 : QAt H' qo qv) (h2 : QAt H' qt rv)
    (hh : H' hp = some (.lst ((zo th qo).map V.str))) (hr : jg H' np (fs ++ gs)) (e1 : fs.map (·.2) = rowsOf th tr qo) (e2 : gs.map (·.2) = rowsOf th tr qt) : kh th tr H' (.ref sp) (.both qo qt) :=
  ⟨sp, _, hp, np, _, rfl, hsp, ⟨qp, qv, rv, rfl, hqp, h1, h2⟩, hh, hr, by rw [List.map_append, e1, e2]; rfl⟩
theorem z5C {H H' : Hp} {np a b : Addr} {fs gs : List (Addr × List Int)} (hnp : H np = none) (n : zM H H') (x : H' np = some (.lst (refs fs ++ refs gs))) (h1 : jg H a fs) (h2 : jg H b gs) : jg H' np (fs ++ gs) :=
  kZ hnp n (by rw [x]; simp [refs]) fun r m => by
    rcases List.mem_append.mp m with m | m
    · exact (h1.2 r m).2
    · exact (h2.2 r m).2
theorem z3a {th : Str → List Str} {c : Cond} {q : Qn} (hnl : ∀ s ∈ zo th q, s.length ≤ 10) (sm : jD (zo th q) c) (sz : c.size ≤ 6) : (zz (.pick c q)).length ≤ (zz q).length + 1000 := by
  have ls := kB hnl sm;simp only [zz]
  (walk_at "sl")
def z2g (K : PySem.W.Frag) : Sp := fun vs H Q _ => ∃ (th : Str → List Str) (tr : Str → List (List Int)) (q : Qn) (v : V) (seed : Int), vs = [v, .int seed] ∧ TabOk th tr ∧ kh th tr H v q ∧ okQ th q ∧ (zz q).length ≤ 4000000 ∧ (rowsOf th tr q).length ≤ 100000 ∧
  ∀ (v' : V) (q' : Qn) (c : Cond) (H' : Hp), zM H H' → kh th tr H' v' q' → jD (zo th q) c → c.size ≤ 6 → (q' = .both q (.pick c q) ∨ q' = .both (.pick c q) q) → Q v' H'
theorem jV : FnScope ["_law_state", "_law_seed", "_law_one", "_law_other", "_law_line"] ["_law_state", "_law_seed"] (zv yn) := ⟨rfl, rfl, rfl, by decide +kernel, rfl, by decide +kernel, by decide +kernel⟩
theorem z2R (F : Fun K "_law_doubled" "_law_doubled" yn f fd) (T : Txt K mg) (C_law_picked : Kn P w K mg base 8 "_law_picked" ["_law_state", "_law_seed"] (z1V K)) : FnOk P w K mg base CX0 9 f fd ["_law_state", "_law_seed"] (z2g K) := by
  refine F.ok jV (fun vs H Q E h => ?_) (fun cdv A outer s H vs Q E hr h => ?_)
  · obtain ⟨th, tr, q, v, seed, rfl, _⟩ := h
    rfl
  obtain ⟨th, tr, q, v, seed, rfl, TT, hst, hok, hli, hro, fin⟩ := h;have hnl := ji TT hok;refine ⟨_, (zj (zu (i := 2) jV.nd rfl (Or.inl rfl) (pv 0))
    (zj (zu (i := 3) jV.nd rfl (Or.inl rfl) (zX C_law_picked hr.m rfl (zl (pv 0) (zl (pv 1) zi))))
    (zj (kN (zG jm (zr j8 (zr yk (pv 1) zd) zd) zd (zN _))
      (zj (zu (i := 2) jV.nd rfl (Or.inl rfl) (pv 3))
      (zq (zu (i := 3) jV.nd rfl (Or.inl rfl) (pv 0))))
      zQ)
    (zj (zu (i := 4) jV.nd rfl (Or.inl rfl) (zr zp (zr zp (zr zp (zr zp zm (zw zx (pv 2) zd (fun _ _ => rfl))) zm) (zw zx (pv 3) zd (fun _ _ => rfl))) zm))
    (zq (zR (zJ (zS (zJ (zn zm (zF (zw zx (pv 2) zd (fun _ _ => rfl)) (zF (zw zx (pv 3) zd (fun _ _ => rfl)) zi)))) (zl (pv 4) (zF (zw zx (pv 0) zd (fun _ _ => rfl)) (yd (zr jR (zw zx (pv 2) zd (fun _ _ => rfl)) (zw zx (pv 3) zd (fun _ _ => rfl))) zi))))))))))), ?_⟩
  refine ⟨_, rfl, ?_⟩;refine ⟨_, rfl, _, rfl, th, tr, q, v, seed, rfl, TT, hst, hok, hli, hro, fun v1 c H1 s1 st1 sm sz => ?_⟩;have hst1 := hst.same s1;have lp := z3a hnl sm sz;have rl : (rowsOf th tr (.pick c q)).length ≤ 100000 := Nat.le_trans (List.length_filter_le _ _) hro;have eh : zo th (.pick c q) = zo th q := rfl;refine ⟨fun σ H3 => ∃ (ov tv : V) (qo qt : Qn), σ = [some v, some (.int seed), some ov, some tv, none] ∧ H3 = H1 ∧ kh th tr H1 ov qo ∧ kh th tr H1 tv qt ∧ (zz qo).length ≤ 4001000 ∧ (zz qt).length ≤ 4001000 ∧ (rowsOf th tr qo).length ≤ 100000 ∧ (rowsOf th tr qt).length ≤ 100000 ∧ zo th qo = zo th q ∧ ((qo = q ∧ qt = .pick c q) ∨ (qo = .pick c q ∧ qt = q)), ?_, ?_⟩
  · refine ⟨_, rfl, _, _, rfl, rfl, ⟨by decide, by decide⟩, _, _, rfl, rfl, (by show (0 : Int) < 2; decide), rfl, _, rfl, ?_⟩;refine yu (fun hb => ?_) (fun hb => ?_)
    · refine ⟨_, rfl, ?_⟩;refine ⟨_, rfl, ?_⟩;exact ⟨_, _, _, _, rfl, rfl, st1, hst1, by omega, by omega, rl, hro, eh, .inr ⟨rfl, rfl⟩⟩
    · exact ⟨_, _, _, _, rfl, rfl, hst1, st1, by omega, by omega, hro, rl, rfl, .inl ⟨rfl, rfl⟩⟩
  · rintro σ H3 ⟨ov, tv, qo, qt, rfl, rfl, sto, stt, lo, lt, ro, rt, eo, hq⟩;obtain ⟨p, qv, hp, rp, rs, rfl, h1, h2, h3, h4, h5⟩ := hst1;obtain ⟨p1, qv1, hp1, rp1, rs1, rfl, a1, a2, a3, a4, a5⟩ := sto;obtain ⟨p2, qv2, hp2, rp2, rs2, rfl, b1, b2, b3, b4, b5⟩ := stt;have l1 : rs1.length ≤ 100000 := by rw [← a5, List.length_map] at ro; exact ro
    have l2 : rs2.length ≤ 100000 := by rw [← b5, List.length_map] at rt; exact rt
    refine ⟨_, rfl, p1, _, _, _, rfl, rfl, SqT.of a1, yE, _, _, rfl, rfl, by (walk_at "sl"), _, _, rfl, rfl, by (walk_at "sl"), _, rfl, p2, _, _, _, rfl, rfl, SqT.of b1, yE, _, _, rfl, rfl, by (walk_at "sl"), _, _, rfl, rfl, by (walk_at "sl"), ?_⟩;refine ⟨_, rfl, p1, _, _, _, rfl, rfl, SqT.of a1, yc, _, rfl, p2, _, _, _, rfl, rfl, SqT.of b1, yc, zt (by show 3 ≤ _; decide), fun qp hqp => ?_⟩;refine zc (upd _ qp _) rfl hqp fun H5 n5 x5 => ?_
    refine ⟨_, rfl, _, rfl, p, _, _, _, rfl, rfl, SqT.of (n5 _ _ h1), yO, _, rfl, p1, _, _, _, rfl, rfl, SqT.of (n5 _ _ a1), z0I, _, rfl, p2, _, _, _, rfl, rfl, SqT.of (n5 _ _ b1), z0I, _, _, _, _, rfl, rfl, n5 _ _ a4.1, n5 _ _ b4.1, zt (by rw [List.length_map, List.length_map]; omega), fun np hnp => ?_⟩;refine zc (upd _ np _) rfl hnp fun H6 n6 x6 => ?_
    have rc := z5C hnp n6 x6 (a4.same n5) (b4.same n5);refine ⟨zt (by show 4 ≤ _; decide), fun sp hsp => ?_⟩;refine zc (upd _ sp _) rfl hsp fun H7 n7 x7 => ?_
    have s37 := n5.trans (n6.trans n7);refine fin _ (.both qo qt) c _ (s1.trans s37) (z7m (x := p) (y := p) s37 x7 (n7 _ _ (n6 _ _ x5)) (a2.same s37) (b2.same s37) (by rw [eo]; exact s37 _ _ h3) (rc.same n7) a5 b5) sm sz ?_;rcases hq with ⟨rfl, rfl⟩ | ⟨rfl, rfl⟩
    · exact .inl rfl
    · exact .inr rfl
def TabAt (th : Str → List Str) (tr : Str → List (List Int)) (H : Hp) (v : V) (n : Str) : Prop := ∃ (p hp rp : Addr) (rs : List (Addr × List Int)), v = .ref p ∧ H p = some (.tup [.str n, .ref hp, .ref rp]) ∧
  H hp = some (.lst ((th n).map V.str)) ∧ jg H rp rs ∧ rs.map (·.2) = tr n
theorem TabAt.same {th : Str → List Str} {tr : Str → List (List Int)} {H H' : Hp} {v : V} {n : Str} (h : TabAt th tr H v n) (e : zM H H') : TabAt th tr H' v n := by
  obtain ⟨p, hp, rp, rs, rfl, h1, h3, h4, h5⟩ := h;exact ⟨p, hp, rp, rs, rfl, e _ _ h1, e _ _ h3, h4.same e, h5⟩
def z3E (K : PySem.W.Frag) : Sp := fun vs H Q _ => ∃ (th : Str → List Str) (tr : Str → List (List Int)) (q : Qn) (n : Str) (v tv : V) (seed : Int), vs = [v, tv, .int seed] ∧ kh th tr H v q ∧ TabAt th tr H tv n ∧ zo th q = th n ∧ n.length ≤ 10 ∧ (zz q).length ≤ 4000000 ∧ (rowsOf th tr q).length ≤ 100000 ∧ (tr n).length ≤ 100000 ∧
  ∀ (v' : V) (q' : Qn) (H' : Hp), zM H H' → kh th tr H' v' q' → (q' = .both q (.table n) ∨ q' = .both (.table n) q) → Q v' H'
theorem yv : FnScope ["_law_state", "_law_table", "_law_seed", "_law_one", "_law_other", "_law_line"] ["_law_state", "_law_table", "_law_seed"] (zv yL) := ⟨rfl, rfl, rfl, by decide +kernel, rfl, by decide +kernel, by decide +kernel⟩
theorem z3m (F : Fun K "_law_beside" "_law_beside" yL f fd) (T : Txt K mg) : FnOk P w K mg base CX0 1 f fd ["_law_state", "_law_table", "_law_seed"] (z3E K) := by
  refine F.ok yv (fun vs H Q E h => ?_) (fun cdv A outer s H vs Q E hr h => ?_)
  · obtain ⟨th, tr, q, n, v, tv, seed, rfl, _⟩ := h
    rfl
  obtain ⟨th, tr, q, n, v, tv, seed, rfl, hst, ht, ehn, nl, hli, hro, hrt, fin⟩ := h;obtain ⟨tp, thp, trp, ts, rfl, t1, t3, t4, t5⟩ := ht;refine ⟨_, (zj (zu (i := 3) yv.nd rfl (Or.inl rfl) (pv 0))
    (zj (zu (i := 4) yv.nd rfl (Or.inl rfl) (zJ (zS (zJ (zn zm (zF (zw zx (pv 1) zd (fun _ _ => rfl)) zi))) (zF (zw zx (pv 1) zd (fun _ _ => rfl)) (zF (zw zx (pv 1) zd (fun _ _ => rfl)) (zF (zw zx (pv 1) zd (fun _ _ => rfl)) zi))))))
    (zj (kN (zG jm (zr j8 (zr yk (pv 2) zd) zd) zd (zN _))
      (zj (zu (i := 3) yv.nd rfl (Or.inl rfl) (pv 4))
      (zq (zu (i := 4) yv.nd rfl (Or.inl rfl) (pv 0))))
      zQ)
    (zj (zu (i := 5) yv.nd rfl (Or.inl rfl) (zr zp (zr zp (zr zp (zr zp zm (zw zx (pv 3) zd (fun _ _ => rfl))) zm) (zw zx (pv 4) zd (fun _ _ => rfl))) zm))
    (zq (zR (zJ (zS (zJ (zn zm (zF (zw zx (pv 3) zd (fun _ _ => rfl)) (zF (zw zx (pv 4) zd (fun _ _ => rfl)) zi)))) (zl (pv 5) (zF (zw zx (pv 0) zd (fun _ _ => rfl)) (yd (zr jR (zw zx (pv 3) zd (fun _ _ => rfl)) (zw zx (pv 4) zd (fun _ _ => rfl))) zi))))))))))), ?_⟩
  refine ⟨_, rfl, ?_⟩;refine ⟨_, rfl, tp, _, _, _, rfl, rfl, SqT.of t1, yc, zt (by show 2 ≤ _; decide), fun qp hqp => ?_⟩;refine zc (upd _ qp _) rfl hqp fun H1 n1 x1 => ?_
  have t1' := n1 _ _ t1;refine ⟨_, rfl, tp, _, _, _, rfl, rfl, SqT.of t1', yc, _, rfl, tp, _, _, _, rfl, rfl, SqT.of t1', yE, _, rfl, tp, _, _, _, rfl, rfl, SqT.of t1', yO, zt (by show 4 ≤ _; decide), fun sp0 hsp0 => ?_⟩;refine zc (upd _ sp0 _) rfl hsp0 fun H2 n2 x2 => ?_
  have s2 := n1.trans n2;have st2 : kh th tr H2 (.ref sp0) (.table n) := ⟨sp0, _, thp, trp, ts, rfl, x2, ⟨qp, rfl, n2 _ _ x1⟩, s2 _ _ t3, t4.same s2, t5⟩;have hst2 := hst.same s2;have ltn : (zz (.table n)).length ≤ 10 := nl;refine ⟨fun σ H3 => ∃ (ov uv : V) (qo qt : Qn), σ = [some v, some (.ref tp), some (.int seed), some ov, some uv, none] ∧ H3 = H2 ∧ kh th tr H2 ov qo ∧ kh th tr H2 uv qt ∧ (zz qo).length ≤ 4000000 ∧ (zz qt).length ≤ 4000000 ∧ (rowsOf th tr qo).length ≤ 100000 ∧ (rowsOf th tr qt).length ≤ 100000 ∧ zo th qo = zo th q ∧ ((qo = q ∧ qt = .table n) ∨ (qo = .table n ∧ qt = q)), ?_, ?_⟩
  · refine ⟨_, rfl, _, _, rfl, rfl, ⟨by decide, by decide⟩, _, _, rfl, rfl, (by show (0 : Int) < 2; decide), rfl, _, rfl, ?_⟩;refine yu (fun hb => ?_) (fun hb => ?_)
    · refine ⟨_, rfl, ?_⟩;refine ⟨_, rfl, ?_⟩;exact ⟨_, _, _, _, rfl, rfl, st2, hst2, by omega, by omega, hrt, hro, ehn.symm, .inr ⟨rfl, rfl⟩⟩
    · exact ⟨_, _, _, _, rfl, rfl, hst2, st2, by omega, by omega, hro, hrt, rfl, .inl ⟨rfl, rfl⟩⟩
  · rintro σ H3 ⟨ov, uv, qo, qt, rfl, rfl, sto, stt, lo, lt, ro, rt, eo, hq⟩;obtain ⟨p, qv, hp, rp, rs, rfl, h1, h2, h3, h4, h5⟩ := hst2;obtain ⟨p1, qv1, hp1, rp1, rs1, rfl, a1, a2, a3, a4, a5⟩ := sto;obtain ⟨p2, qv2, hp2, rp2, rs2, rfl, b1, b2, b3, b4, b5⟩ := stt;have l1 : rs1.length ≤ 100000 := by rw [← a5, List.length_map] at ro; exact ro
    have l2 : rs2.length ≤ 100000 := by rw [← b5, List.length_map] at rt; exact rt
    refine ⟨_, rfl, p1, _, _, _, rfl, rfl, SqT.of a1, yE, _, _, rfl, rfl, by (walk_at "sl"), _, _, rfl, rfl, by (walk_at "sl"), _, rfl, p2, _, _, _, rfl, rfl, SqT.of b1, yE, _, _, rfl, rfl, by (walk_at "sl"), _, _, rfl, rfl, by (walk_at "sl"), ?_⟩;refine ⟨_, rfl, p1, _, _, _, rfl, rfl, SqT.of a1, yc, _, rfl, p2, _, _, _, rfl, rfl, SqT.of b1, yc, zt (by show 3 ≤ _; decide), fun qp' hqp' => ?_⟩;refine zc (upd _ qp' _) rfl hqp' fun H5 n5 x5 => ?_
    refine ⟨_, rfl, _, rfl, p, _, _, _, rfl, rfl, SqT.of (n5 _ _ h1), yO, _, rfl, p1, _, _, _, rfl, rfl, SqT.of (n5 _ _ a1), z0I, _, rfl, p2, _, _, _, rfl, rfl, SqT.of (n5 _ _ b1), z0I, _, _, _, _, rfl, rfl, n5 _ _ a4.1, n5 _ _ b4.1, zt (by rw [List.length_map, List.length_map]; omega), fun np hnp => ?_⟩;refine zc (upd _ np _) rfl hnp fun H6 n6 x6 => ?_
    have rc := z5C hnp n6 x6 (a4.same n5) (b4.same n5);refine ⟨zt (by show 4 ≤ _; decide), fun sp hsp => ?_⟩;refine zc (upd _ sp _) rfl hsp fun H7 n7 x7 => ?_
    have s37 := n5.trans (n6.trans n7);refine fin _ (.both qo qt) _ (s2.trans s37) (z7m (x := p) (y := p) s37 x7 (n7 _ _ (n6 _ _ x5)) (a2.same s37) (b2.same s37) (by rw [eo]; exact s37 _ _ h3) (rc.same n7) a5 b5) ?_;rcases hq with ⟨rfl, rfl⟩ | ⟨rfl, rfl⟩
    · exact .inl rfl
    · exact .inr rfl
theorem z39 {rs : List (Addr × List Int)} {i : Nat} (h : i < rs.length) : (rs.map (·.2))[i]? = some rs[i].2 := by
  rw [List.getElem?_map, List.getElem?_eq_getElem h]
  rfl
theorem z5B {rs : List (Addr × List Int)} {i : Nat} (h : i < rs.length) : (rs.map (·.2)).getD i [] = rs[i].2 := by
  rw [List.getD_eq_getElem?_getD, z39 h]
  rfl
theorem z5F {xs : List V} {m : Int} (h : 0 ≤ m) : z1C xs (some m) none = xs.drop m.toNat := by
  unfold z1C;rw [HT.sIx_none];have e : HT.sIx xs.length 0 (some m) = min m.toNat xs.length := by
    show (if m < 0 then (m + (xs.length : Int)).toNat else min m.toNat xs.length) = _
    rw [if_neg (by omega)]
  rw [e];by_cases hm : m.toNat ≤ xs.length
  · rw [Nat.min_eq_left hm, List.take_of_length_le (by rw [List.length_drop]; omega)]
  · rw [Nat.min_eq_right (by omega), List.drop_of_length_le (Nat.le_refl _), List.drop_of_length_le (by omega), List.take_nil]
theorem z5H {α : Type} (hs : List α) (t : Nat) : (hs.drop t ++ hs.take t).Perm hs := by
  have := List.perm_append_comm (l₁ := hs.drop t) (l₂ := hs.take t)
  rwa [List.take_append_drop] at this
theorem z7L {ns : List Str} (h : ∀ n ∈ ns, n.length ≤ 10) : (ns.map (·.length)).sum ≤ 10 * ns.length := by
  induction ns with
  | nil => exact Nat.le_refl _
  | cons n ns ih =>
    have h1 := h n List.mem_cons_self;have h2 := ih fun m hm => h m (List.mem_cons_of_mem _ hm)
    rw [List.map_cons, List.sum_cons, List.length_cons];omega
theorem z3v : ∀ {ns : List Str}, (∀ n ∈ ns, n.length ≤ 10) → (Str.join " " ns).length ≤ 11 * ns.length
  | [], _ => by simp [Str.join]; decide
  | [n], h => by
    have := h n List.mem_cons_self;simp only [Str.join, List.length_singleton];omega
  | n :: m :: ns, h => by
    have h1 := h n List.mem_cons_self;have h2 := z3v (ns := m :: ns) fun x hx => h x (List.mem_cons_of_mem _ hx)
    simp only [Str.join, Str.length_append, z0H];have e : (n :: m :: ns).length = (m :: ns).length + 1 := rfl;omega
def z2w (K : PySem.W.Frag) : Sp := fun vs H Q _ => ∃ (th : Str → List Str) (tr : Str → List (List Int)) (q : Qn) (v : V) (seed : Int), vs = [v, .int seed] ∧ TabOk th tr ∧ kh th tr H v q ∧ okQ th q ∧ (zz q).length ≤ 4000000 ∧ (rowsOf th tr q).length ≤ 100000 ∧ (zo th q).length ≤ 1000 ∧
  ∀ (v' : V) (ns : List Str) (H' : Hp), zM H H' → kh th tr H' v' (.cols ns q) → ns ≠ [] → ns.Nodup → (∀ n ∈ ns, n ∈ zo th q) → Q v' H'
theorem jL : FnScope ["_law_state", "_law_seed", "_law_turn", "_law_names", "_law_spots", "_law_rows", "_law_line"] ["_law_state", "_law_seed"] (zv jx) := ⟨rfl, rfl, rfl, by decide +kernel, rfl, by decide +kernel, by decide +kernel⟩
theorem z2N (F : Fun K "_law_columns" "_law_columns" jx f fd) (T : Txt K mg) : FnOk P w K mg base CX0 1 f fd ["_law_state", "_law_seed"] (z2w K) := by
  refine F.ok jL (fun vs H Q E h => ?_) (fun cdv A outer s H vs Q E hr h => ?_)
  · obtain ⟨th, tr, q, v, seed, rfl, _⟩ := h
    rfl
  obtain ⟨th, tr, q, v, seed, rfl, TT, hst, hok, hli, hro, hhl, fin⟩ := h;obtain ⟨p, qv, hp, rp, rs, rfl, h1, h2, h3, h4, h5⟩ := hst;obtain ⟨hne, hnd⟩ := jU TT hok;have hnl := ji TT hok;have hrl := jO TT hok;have hlr : (refs rs).length = rs.length := List.length_map _;have hrc : rs.length ≤ 100000 := by rw [← h5, List.length_map] at hro; exact hro
  generalize hhs : zo th q = hs at *;have hlen : (0 : Int) < (((hs.map V.str).length : Nat) : Int) := by
    have := List.length_pos_iff.mpr hne;rw [List.length_map]; omega
  refine ⟨_, (zj (zu (i := 2) jL.nd rfl (Or.inl rfl) (zr j8 (pv 1) (zI zK rfl T.len PySem.boot_len (zF (zw zx (pv 0) zd (fun _ _ => rfl)) zi))))
    (zj (zu (i := 3) jL.nd rfl (Or.inl rfl) (zr jR (jh yB (zw zx (pv 0) zd (fun _ _ => rfl)) (jq (pv 2)) jF) (jh yB (zw zx (pv 0) zd (fun _ _ => rfl)) jF (jq (pv 2)))))
    (zj (kN (z1O (zG jm (zr j8 (zr yk (pv 1) zd) zd) zd (zN _)) (zG z3e (zI zK rfl T.len PySem.boot_len (zl (pv 3) zi)) zd (zN _)))
      (zq (zu (i := 3) jL.nd rfl (Or.inl rfl) (jh yB (pv 3) (jq zd) jF)))
      zQ)
    (zj (zu (i := 4) jL.nd rfl (Or.inr rfl) (z1n rfl (CompSc.of (sx := zv jx) (NX := ["_law_state", "_law_seed", "_law_turn", "_law_names", "_law_spots", "_law_rows", "_law_line"]) (fr := ["_law_state"]) (ix := [0]) rfl rfl (by decide +kernel)) (kc (pv 3)) (fun _ _ _ _ _ _ => kf) (fun _ _ _ _ _ _ => (zaq (K := K) rfl PySem.F.plainAttrs_list PySem.F.slot_list_index PySem.F.type_list_index (z7u (K := K) rfl) (zw (z4X (K := K) rfl) (pv 1) zd (fun _ _ => rfl)) (zl (pv 0) zi)))))
    (zj (yD (j := 5) rfl jL.nd rfl (Or.inl rfl) (CompSc.of (sx := zv jx) (NX := ["_law_state", "_law_seed", "_law_turn", "_law_names", "_law_spots", "_law_rows", "_law_line"]) (fr := ["_law_spots"]) (ix := [4]) rfl rfl (by decide +kernel)) (kc (zw zx (pv 0) zd (fun _ _ => rfl))) (fun _ _ _ _ _ _ => kf) (fun _ _ _ _ _ _ => (z1n rfl (CompSc.of2 (sx := zv jx) (NX := ["_law_row", "_law_spots"]) (fr := ["_law_row"]) (ix := [0]) rfl rfl (by decide +kernel)) (z92 (K := K) rfl (pv 1)) (fun _ _ _ _ _ _ => kf) (fun _ _ _ _ _ _ => (zw (kF (K := K) rfl) (pv 1) (pv 0) (fun _ _ => rfl))))))
    (zj (zu (i := 6) jL.nd rfl (Or.inl rfl) (zr zp (zr zp (zr zp (zr zp zm (jZ PySem.F.plainAttrs_str PySem.F.slot_str_join PySem.F.type_str_join z6V zm (zl (pv 3) zi))) zm) (zw zx (pv 0) zd (fun _ _ => rfl))) zm))
    (zq (zR (zJ (zS (zJ (zn zm (ya (yl z0n rfl T.tuple PyProof.Rows.boot_tuple (zl (pv 3) zi)) (zF (zw zx (pv 0) zd (fun _ _ => rfl)) zi)))) (zl (pv 6) (zl (pv 3) (zl (pv 5) zi))))))))))))), ?_⟩
  refine ⟨_, rfl, _, rfl, p, _, _, _, rfl, rfl, SqT.of h1, yO, hp, _, rfl, .inl (SqL.of h3), _, _, rfl, rfl, hlen, ?_⟩;obtain ⟨t0, t1⟩ := kK (i := seed) hlen;obtain ⟨tn, htn⟩ : ∃ tn, seed % (((hs.map V.str).length : Nat) : Int) = tn := ⟨_, rfl⟩
  dsimp -proj only;rw [htn] at t0 t1 ⊢;refine ⟨_, rfl, p, _, _, _, rfl, rfl, SqT.of h1, yO, _, rfl, _, rfl, hp, _, rfl, SqL.of h3, fun l1 f1 => ?_⟩;rw [z5F t0, ← List.map_drop];refine zc (upd _ l1 _) rfl f1 fun H1 n1 x1 => ?_
  refine ⟨_, rfl, p, _, _, _, rfl, rfl, SqT.of (n1 _ _ h1), yO, _, rfl, _, rfl, hp, _, rfl, SqL.of (n1 _ _ h3), fun l2 f2 => ?_⟩;rw [z1r t0, ← List.map_take];refine zc (upd _ l2 _) rfl f2 fun H2 n2 x2 => ?_
  refine ⟨_, _, _, _, rfl, rfl, n2 _ _ x1, x2, zt (by rw [List.length_map, List.length_map, List.length_drop, List.length_take]; omega), fun l3 f3 => ?_⟩;rw [← List.map_append];refine zc (upd _ l3 _) rfl f3 fun H3 n3 x3 => ?_
  have pm := z5H hs tn.toNat
  have nl : (hs.drop tn.toNat ++ hs.take tn.toNat).length = hs.length := pm.length_eq;have nnd : (hs.drop tn.toNat ++ hs.take tn.toNat).Nodup := pm.nodup_iff.mpr hnd;have nmem : ∀ n ∈ hs.drop tn.toNat ++ hs.take tn.toNat, n ∈ hs := fun n hn => pm.mem_iff.mp hn
  generalize hs.drop tn.toNat ++ hs.take tn.toNat = ns0 at x3 nl nnd nmem;have s3 := n1.trans (n2.trans n3);refine ⟨fun σ H4 => ∃ (np : Addr) (ns : List Str), σ = [some (.ref p), some (.int seed), some (.int tn), some (.ref np), none, none, none] ∧ zM H H4 ∧ H4 np = some (.lst (ns.map V.str)) ∧ ns ≠ [] ∧ ns.Nodup ∧ (∀ n ∈ ns, n ∈ hs) ∧ ns.length ≤ 1000, ?_, ?_⟩
  · refine ⟨_, rfl, _, _, rfl, rfl, ⟨by decide, by decide⟩, _, _, rfl, rfl, (by show (0 : Int) < 3; decide), rfl, _, rfl, _, ⟨_, rfl, l3, _, rfl, .inl (SqL.of x3), _, _, rfl, rfl, _, rfl, rfl, rfl⟩, ?_⟩;refine yu (fun hb => ?_) (fun hb => ?_)
    · rw [Bool.and_eq_true] at hb;have hb2 := of_decide_eq_true hb.2;rw [List.length_map] at hb2;refine ⟨_, rfl, 1, rfl, l3, _, rfl, SqL.of x3, fun l4 f4 => ?_⟩;rw [z5F (by decide), ← List.map_drop];refine zc (upd _ l4 _) rfl f4 fun H4 n4 x4 => ?_
      refine ⟨l4, ns0.drop 1, rfl, s3.trans n4, x4, fun z => ?_, nnd.sublist (List.drop_sublist _ _), fun n hn => nmem n (List.mem_of_mem_drop hn), by rw [List.length_drop]; omega⟩;have := congrArg List.length z;rw [List.length_drop] at this;simp at this;omega
    · refine ⟨l3, ns0, rfl, s3, x3, fun z => ?_, nnd, nmem, by omega⟩;rw [z] at nl;exact hne (List.length_eq_zero_iff.mp nl.symm)
  · rintro σ H4 ⟨np, ns, rfl, s4, x4, nne, nnd, nmem, nlen⟩;have nl10 : ∀ n ∈ ns, n.length ≤ 10 := fun n hn => hnl n (nmem n hn)
    refine ⟨_, rfl, np, rfl, ⟨_, SqL.of x4⟩, ?_⟩;refine z0d (xs := ns.map V.str) (fun i ys H' => zM H4 H' ∧ ys = (ns.take i).map fun n => V.int ((hs.idxOf n : Nat) : Int)) ⟨zM.refl _, rfl⟩ ?_ ?_ ?_
    · rintro i ys H' hi ⟨sm', rfl⟩;exact ⟨SqL.of (sm' _ _ x4), jj (by rw [List.length_map, List.length_take]; omega)⟩
    · rintro i x ys H' hi ⟨sm', rfl⟩;have hin : i < ns.length := by
        have := (List.getElem?_eq_some_iff.mp hi).1
        rwa [List.length_map] at this
      rw [List.getElem?_map, List.getElem?_eq_getElem hin] at hi;cases hi;have hi0 := kv (nmem _ (List.getElem_mem hin));have g3 := (s4.trans sm') _ _ h3;refine ⟨_, rfl, p, _, _, _, rfl, rfl, SqT.of ((s4.trans sm') _ _ h1), yO, .inl ⟨rfl, _, SqL.of g3⟩, _, rfl, hp, _, _, hs.idxOf ns[i], rfl, rfl, SqL.of g3, rfl, yX hs, hi0.1, hi0.2, sm', ?_⟩;rw [List.take_add_one, List.getElem?_eq_getElem hin, List.map_append]
      rfl
    · rintro ys H' ⟨sm', rfl⟩ sp hsp;rw [List.length_map, List.take_length];refine zc (upd _ sp _) rfl hsp fun H5 n5 x5 => ?_
      have s5 := s4.trans (sm'.trans n5);have j5 := h4.same s5;refine ⟨_, rfl, p, _, _, _, rfl, rfl, SqT.of (s5 _ _ h1), z0I, rp, rfl, ⟨_, SqL.of j5.1⟩, ?_⟩;refine z0d (xs := refs rs) (fun i ys H' => zM H5 H' ∧ ∃ qs : List (Addr × List Int), ys = refs qs ∧ qs.length = i ∧ (∀ r ∈ qs, H' r.1 = some (.lst (r.2.map V.int))) ∧ qs.map (·.2) = ((rs.map (·.2)).take i).map fun r => ns.map fun n => r.getD (hs.idxOf n) 0) ⟨zM.refl _, [], rfl, rfl, fun _ z => (by cases z), rfl⟩ ?_ ?_ ?_
      · rintro i ys H6 hi ⟨s6, qs, rfl, hq, _, _⟩;rw [hlr] at hi;exact ⟨SqL.of (s6 _ _ j5.1), jj (by rw [List.length_map]; omega)⟩
      · rintro i x ys H6 hi ⟨s6, qs, rfl, hq, hqa, hqe⟩;have hir : i < rs.length := by
          have := (List.getElem?_eq_some_iff.mp hi).1
          rwa [hlr] at this
        rw [z0g hir] at hi;cases hi;have hrow := (j5.2 _ (List.getElem_mem hir)).2;have hlen' : rs[i].2.length = hs.length := hrl _ (by rw [← h5]; exact List.mem_map.mpr ⟨_, List.getElem_mem hir, rfl⟩);refine ⟨_, rfl, sp, rfl, ⟨_, SqL.of (s6 _ _ x5)⟩, ?_⟩;refine z0d (xs := ns.map fun n => V.int ((hs.idxOf n : Nat) : Int)) (fun m ys H' => H' = H6 ∧ ys = ((ns.take m).map fun n => rs[i].2.getD (hs.idxOf n) 0).map V.int) ⟨rfl, rfl⟩ ?_ ?_ ?_
        · rintro m ys H7 hm ⟨rfl, rfl⟩;exact ⟨SqL.of (s6 _ _ x5), jj (by rw [List.length_map, List.length_map, List.length_take]; omega)⟩
        · rintro m x ys H7 hm ⟨rfl, rfl⟩;have hmn : m < ns.length := by
            have := (List.getElem?_eq_some_iff.mp hm).1
            rwa [List.length_map] at this
          rw [List.getElem?_map, List.getElem?_eq_getElem hmn] at hm;cases hm;have hix : hs.idxOf ns[m] < rs[i].2.length := by rw [hlen']; exact List.idxOf_lt_length_iff.mpr (nmem _ (List.getElem_mem hmn))
          refine ⟨_, rfl, _, rfl, rs[i].1, _, _, _, rfl, rfl, SqL.of (s6 _ _ hrow), jr (int_at hix), rfl, ?_⟩;rw [List.take_add_one, List.getElem?_eq_getElem hmn, List.map_append, List.map_append]
          rfl
        · rintro ys H7 ⟨rfl, rfl⟩ lp hlp;rw [List.length_map, List.take_length];have n8 := jB hlp (.lst ((ns.map fun n => rs[i].2.getD (hs.idxOf n) 0).map V.int));refine ⟨s6.trans n8, qs ++ [(lp, ns.map fun n => rs[i].2.getD (hs.idxOf n) 0)], by simp [refs], by rw [List.length_append, hq]; rfl, fun r m => ?_, ?_⟩
          · rcases List.mem_append.mp m with m | m
            · exact n8 _ _ (hqa r m)
            · rw [List.mem_singleton.mp m];exact zU
          · rw [List.map_append, hqe, List.take_add_one, z39 hir, List.map_append]
            rfl
      · rintro ys H6 ⟨s6, qs, rfl, hq, hqa, hqe⟩ wp hwp;rw [hlr, show (rs.map (·.2)).take rs.length = rs.map (·.2) from List.take_of_length_le (by rw [List.length_map]; exact Nat.le_refl _)] at hqe;refine zc (upd _ wp _) rfl hwp fun H7 n7 x7 => ?_
        have w7 := kZ hwp n7 x7 hqa;have s57 := s6.trans n7;have s47 := sm'.trans (n5.trans s57);have s7 := s4.trans s47;have jl := z3v nl10;have sl := z7L nl10;refine ⟨rfl, _, rfl, _, np, ns, rfl, rfl, SqL.of (s47 _ _ x4), by rw [z0H]; omega, _, _, rfl, rfl, by (walk_at "sl"), _, _, rfl, rfl, by (walk_at "sl"), _, rfl, p, _, _, _, rfl, rfl, SqT.of (s7 _ _ h1), yE, _, _, rfl, rfl, by (walk_at "sl"), _, _, rfl, rfl, by (walk_at "sl"), ?_⟩;refine ⟨_, rfl, np, _, rfl, .inl ⟨SqL.of (s47 _ _ x4), fun tp htp => ?_⟩⟩;refine zc (upd _ tp _) rfl htp fun H8 n8 x8 => ?_
        refine ⟨_, rfl, p, _, _, _, rfl, rfl, SqT.of (n8 _ _ (s7 _ _ h1)), yc, zt (by show 3 ≤ _; decide), fun qp hqp => ?_⟩;refine zc (upd _ qp _) rfl hqp fun H9 n9 x9 => ?_
        refine ⟨_, rfl, _, rfl, _, rfl, zt (by show 4 ≤ _; decide), fun sp' hsp' => ?_⟩;refine zc (upd _ sp' _) rfl hsp' fun H10 n10 x10 => ?_
        have s710 := n8.trans (n9.trans n10);have s10 := s7.trans s710;refine fin _ ns _ s10 ⟨sp', _, np, wp, qs, rfl, x10, ⟨qp, tp, qv, rfl, n10 _ _ x9, n10 _ _ (n9 _ _ x8), h2.same s10⟩, (s47.trans s710) _ _ x4, w7.same s710, ?_⟩ nne nnd nmem;rw [hqe, h5];simp only [rowsOf, hhs]
def z1T (K : PySem.W.Frag) : Sp := fun vs H Q _ => ∃ (th : Str → List Str) (tr : Str → List (List Int)) (q : Qn) (v : V) (seed : Int), vs = [v, .int seed] ∧ TabOk th tr ∧ kh th tr H v q ∧ okQ th q ∧ (zz q).length ≤ 4000000 ∧ (rowsOf th tr q).length < 64 ∧
  ∀ (v' : V) (n : Str) (H' : Hp), zM H H' → kh th tr H' v' (.sort n q) → n ∈ zo th q → Q v' H'
theorem jT : FnScope ["_law_state", "_law_seed", "_law_name", "_law_spot", "_law_keys", "_law_rows", "_law_pair", "_law_line"] ["_law_state", "_law_seed"] (zv yh) := ⟨rfl, rfl, rfl, by decide +kernel, rfl, by decide +kernel, by decide +kernel⟩
theorem z3L (F : Fun K "_law_sorted" "_law_sorted" yh f fd) (T : Txt K mg) : FnOk P w K mg base CX0 1 f fd ["_law_state", "_law_seed"] (z1T K) := by
  refine F.ok jT (fun vs H Q E h => ?_) (fun cdv A outer s H vs Q E hr h => ?_)
  · obtain ⟨th, tr, q, v, seed, rfl, _⟩ := h
    rfl
  obtain ⟨th, tr, q, v, seed, rfl, TT, hst, hok, hli, hro, fin⟩ := h;obtain ⟨p, qv, hp, rp, rs, rfl, h1, h2, h3, h4, h5⟩ := hst;obtain ⟨hne, hnd⟩ := jU TT hok;have hnl := ji TT hok;have hrl := jO TT hok;have hlr : (refs rs).length = rs.length := List.length_map _;have hrc : rs.length < 64 := by rw [← h5, List.length_map] at hro; exact hro
  have hlen : (0 : Int) < ((((zo th q).map V.str).length : Nat) : Int) := by
    have := List.length_pos_iff.mpr hne;rw [List.length_map]; omega
  obtain ⟨nm, mn, en⟩ := z0J (i := seed) hne;have hi0 := kv mn;have nl := hnl nm mn;refine ⟨_, (zj (zu (i := 2) jT.nd rfl (Or.inl rfl) (zw zT (zw zx (pv 0) zd (fun _ _ => rfl)) (zr j8 (pv 1) (zI zK rfl T.len PySem.boot_len (zF (zw zx (pv 0) zd (fun _ _ => rfl)) zi))) (fun _ _ => rfl)))
    (zj (zu (i := 3) jT.nd rfl (Or.inr rfl) (jZ PySem.F.plainAttrs_list PySem.F.slot_list_index PySem.F.type_list_index z0f (zw zx (pv 0) zd (fun _ _ => rfl)) (zl (pv 2) zi)))
    (zj (yD (j := 4) rfl jT.nd rfl (Or.inl rfl) (CompSc.of (sx := zv yh) (NX := ["_law_state", "_law_seed", "_law_name", "_law_spot", "_law_keys", "_law_rows", "_law_pair", "_law_line"]) (fr := ["_law_state", "_law_spot"]) (ix := [0, 3]) rfl rfl (by decide +kernel)) (kd rfl T.range (ya (zI zK rfl T.len PySem.boot_len (zF (zw zx (pv 0) zd (fun _ _ => rfl)) zi)) zi)) (fun _ _ _ _ _ _ => kf) (fun _ _ _ _ _ _ => (zJ (zF (zw (kF (K := K) rfl) (zw (kF (K := K) rfl) (zw (z4X (K := K) rfl) (pv 1) zd (fun _ _ => rfl)) (pv 0) (fun _ _ => rfl)) (pv 2) (fun _ _ => rfl)) (zl (pv 0) zi)))))
    (zj (zu (i := 5) jT.nd rfl (Or.inl rfl) (zV zi))
    (zj (z02 PassesOwn.never rfl (kc (zI (z55 rfl) rfl T.sorted PyProof.Rows.boot_sorted (zl (pv 4) zi))) (yQ (i := 6) jT.nd rfl (Or.inl rfl))
      (zq (kW (jZ PySem.F.plainAttrs_list PySem.F.slot_list_append PySem.F.type_list_append yK (pv 5) (zF (zw zT (zw zx (pv 0) zd (fun _ _ => rfl)) (zw zx (pv 6) zd (fun _ _ => rfl)) (fun _ _ => rfl)) zi)))))
    (zj (zu (i := 7) jT.nd rfl (Or.inl rfl) (zr zp (zr zp (zr zp (zr zp zm (pv 2)) zm) (zw zx (pv 0) zd (fun _ _ => rfl))) zm))
    (zq (zR (zJ (zS (zJ (zn zm (zl (pv 2) (zF (zw zx (pv 0) zd (fun _ _ => rfl)) zi)))) (zl (pv 7) (zF (zw zx (pv 0) zd (fun _ _ => rfl)) (zl (pv 5) zi))))))))))))), ?_⟩
  refine ⟨_, rfl, p, _, _, _, rfl, rfl, SqT.of h1, yO, _, rfl, _, rfl, p, _, _, _, rfl, rfl, SqT.of h1, yO, hp, _, rfl, .inl (SqL.of h3), _, _, rfl, rfl, hlen, hp, _, _, _, rfl, rfl, SqL.of h3, en, ?_⟩;refine ⟨_, rfl, p, _, _, _, rfl, rfl, SqT.of h1, yO, .inl ⟨rfl, _, SqL.of h3⟩, _, rfl, hp, _, _, (zo th q).idxOf nm, rfl, rfl, SqL.of h3, rfl, yX _, hi0.1, hi0.2, ?_⟩;have sl : ∀ r ∈ rs, (zo th q).idxOf nm < r.2.length := fun r m => by
    rw [hrl r.2 (by rw [← h5]; exact List.mem_map.mpr ⟨_, m, rfl⟩)];exact List.idxOf_lt_length_iff.mpr mn
  generalize hsp : (zo th q).idxOf nm = sp at sl;refine ⟨_, rfl, p, _, _, _, rfl, rfl, SqT.of h1, z0I, rp, _, rfl, .inl (SqL.of h4.1), _, rfl, by omega, by rw [hlr]; omega, ?_⟩;refine kY (lo := 0) (n := (((refs rs).length : Nat) : Int).toNat) (fun i ys H' => zM H H' ∧ ∃ ps : List PQ, ys = (ps.map fun p => V.ref p.1) ∧ ps.length = i ∧ (∀ p ∈ ps, H' p.1 = some (.tup [.int p.2.1, .int p.2.2])) ∧ ∀ (m : Nat) (hm : m < ps.length), ps[m].2 = ((rs.getD m (0, [])).2.getD sp 0, (m : Int))) ⟨zM.refl _, [], rfl, rfl, fun _ z => (by cases z), fun m hm => absurd hm (Nat.not_lt_zero _)⟩ ?_ ?_ ?_
  · rintro i ys H' hi ⟨sm', ps, rfl, hq, _, _⟩;rw [Int.toNat_natCast, hlr] at hi;exact jj (by rw [List.length_map]; omega)
  · rintro i ys H' hi ⟨sm', ps, rfl, hq, hpa, hpe⟩;rw [Int.toNat_natCast, hlr] at hi;have hrow := sm' _ _ (h4.2 _ (List.getElem_mem hi)).2;refine ⟨_, rfl, p, _, _, _, rfl, rfl, SqT.of (sm' _ _ h1), z0I, _, rfl, rp, _, _, _, rfl, rfl, SqL.of (sm' _ _ h4.1), z9q hi, _, rfl, rs[i].1, _, _, _, rfl, rfl, SqL.of hrow, jr (int_at (sl _ (List.getElem_mem hi))), _, rfl, zt (by show 2 ≤ _; decide), fun tp htp => ?_⟩;have n1 := jB htp (.tup [V.int (rs[i].2.getD sp 0), V.int (0 + (i : Int))]);refine ⟨sm'.trans n1, ps ++ [(tp, rs[i].2.getD sp 0, 0 + (i : Int))], by simp, by rw [List.length_append, hq]; rfl, fun r m => ?_, fun m hm => ?_⟩
    · rcases List.mem_append.mp m with m | m
      · exact n1 _ _ (hpa r m)
      · rw [List.mem_singleton.mp m];exact zU
    · rw [List.length_append, List.length_singleton] at hm;by_cases hml : m < ps.length
      · rw [List.getElem_append_left hml];exact hpe m hml
      · have em : m = ps.length := by omega
        subst em;rw [List.getElem_append_right (Nat.le_refl _)];simp only [Nat.sub_self, List.getElem_cons_zero];rw [hq, List.getD_eq_getElem?_getD (l := rs), List.getElem?_eq_getElem hi, Int.zero_add]
        rfl
  · rintro ys H' ⟨sm', ps, rfl, hq, hpa, hpe⟩ kp hkp;rw [Int.toNat_natCast, hlr] at hq;refine zc (upd _ kp _) rfl hkp fun H1 n1 x1 => ?_
    have s1 := sm'.trans n1;refine ⟨zt (by show 0 ≤ _; decide), fun wp hwp => ?_⟩;refine zc (upd _ wp _) rfl hwp fun H2 n2 x2 => ?_
    have s2 := s1.trans n2;have fwp : H wp = none := s1.free hwp;refine ⟨_, rfl, kp, ps, rfl, SqL.of (n2 _ _ x1), fun p m => n2 _ _ (n1 _ _ (hpa p m)), by omega, fun dp is hdp pm pw => ?_⟩;have nwd : dp ≠ wp := (zy x2 hdp).symm;refine zc (upd _ dp _) rfl hdp fun H3 n3 x3 => ?_
    rw [hq] at pm;have mem : ∀ i ∈ is, i < rs.length := fun i hi => List.mem_range.mp (pm.mem_iff.mp hi)
    have pk : ∀ i, i < rs.length → (ps.getD i pq0).2 = ((rs.getD i (0, [])).2.getD sp 0, (i : Int)) := fun i hi => by
      rw [List.getD_eq_getElem?_getD, List.getElem?_eq_getElem (by omega)];exact hpe i (by omega)
    have s3 := s2.trans n3;refine ⟨dp, rfl, ⟨_, SqL.of x3⟩, z1f (K := K) (a := dp) (xs := is.map fun i => V.ref (ps.getD i pq0).1) (fun i σ H' => ∃ o6 : Option V, σ = [some (.ref p), some (.int seed), some (.str nm), some (.int ((sp : Nat) : Int)), some (.ref kp), some (.ref wp), o6, none] ∧ zM H H' ∧ H' dp = some (.lst (is.map fun i => V.ref (ps.getD i pq0).1)) ∧ (∀ p ∈ ps, H' p.1 = some (.tup [.int p.2.1, .int p.2.2])) ∧
      jg H' wp ((is.take i).map fun i => rs.getD i (0, []))) ⟨none, rfl, s3, x3, fun p m => n3 _ _ (n2 _ _ (n1 _ _ (hpa p m))), kH (n3 _ _ x2)⟩ (fun i σ H' _ ⟨_, _, _, z, _⟩ => SqL.of z) ?_ ?_⟩
    · rintro i x σ H4 hi ⟨o6, rfl, s4, d4, p4, w4⟩;have hii : i < is.length := by
        have := (List.getElem?_eq_some_iff.mp hi).1
        rwa [List.length_map] at this
      rw [List.getElem?_map, List.getElem?_eq_getElem hii] at hi;cases hi;have hir := mem _ (List.getElem_mem hii);have mp : ps.getD is[i] pq0 ∈ ps := by
        rw [List.getD_eq_getElem?_getD, List.getElem?_eq_getElem (by omega)];exact List.getElem_mem _
      have ek := pk _ hir;have e2 : (ps.getD is[i] pq0).2.2 = ((is[i] : Nat) : Int) := by rw [ek]
      have j4 := h4.same s4;have eg : rs.getD is[i] (0, []) = rs[is[i]] := by rw [List.getD_eq_getElem?_getD, List.getElem?_eq_getElem hir]; rfl
      refine ⟨_, rfl, .inl ⟨rfl, _, SqL.of w4.1⟩, _, rfl, p, _, _, _, rfl, rfl, SqT.of (s4 _ _ h1), z0I, _, rfl, _, _, _, _, rfl, rfl, SqT.of (p4 _ mp), yE, rp, _, _, V.ref rs[is[i]].1, rfl, rfl, SqL.of j4.1, by rw [e2]; exact jr (z0g hir), wp, _, _, rfl, rfl, w4.1, jj (by rw [List.length_map, List.length_map, List.length_take, pm.length_eq, List.length_range]; omega), ?_⟩;refine ⟨_, rfl, s4.put fwp, by rw [zO nwd]; exact d4, fun q' m => by rw [zO (z8i (p4 q' m) w4.1 (by intro z; cases z))]; exact p4 q' m, ?_⟩;rw [List.take_add_one, List.getElem?_eq_getElem hii, List.map_append];have rr := (j4.2 _ (List.getElem_mem hir));have nwr : rs[is[i]].1 ≠ wp := fun z => by
        have := (h4.2 _ (List.getElem_mem hir)).2;rw [z, fwp] at this;cases this
      have := w4.push (q := rs[is[i]].1) (x := rs[is[i]].2) nwr rr.2
      show jg _ wp (_ ++ [rs.getD is[i] (0, [])])
      rw [eg];exact this
    · rintro σ H4 ⟨o6, rfl, s4, d4, p4, w4⟩;rw [List.length_map, List.take_length] at w4;refine ⟨_, rfl, _, _, rfl, rfl, by (walk_at "sl"), _, _, rfl, rfl, by (walk_at "sl"), _, rfl, p, _, _, _, rfl, rfl, SqT.of (s4 _ _ h1), yE, _, _, rfl, rfl, by (walk_at "sl"), _, _, rfl, rfl, by (walk_at "sl"), ?_⟩;refine ⟨_, rfl, _, rfl, p, _, _, _, rfl, rfl, SqT.of (s4 _ _ h1), yc, zt (by show 3 ≤ _; decide), fun qp hqp => ?_⟩;refine zc (upd _ qp _) rfl hqp fun H5 n5 x5 => ?_
      refine ⟨_, rfl, _, rfl, p, _, _, _, rfl, rfl, SqT.of (n5 _ _ (s4 _ _ h1)), yO, _, rfl, zt (by show 4 ≤ _; decide), fun sp' hsp' => ?_⟩;refine zc (upd _ sp' _) rfl hsp' fun H6 n6 x6 => ?_
      have s46 := n5.trans n6;have s6 := s4.trans s46;refine fin _ nm _ s6 ⟨sp', _, hp, wp, _, rfl, x6, ⟨qp, qv, rfl, n6 _ _ x5, h2.same s6⟩, s6 _ _ h3, w4.same s46, ?_⟩ mn
      show _ = z2E ((zo th q).idxOf nm) (rowsOf th tr q)
      rw [hsp, ← h5];unfold z2E;have e0 : is = z2f (z7d (rs.map (·.2)) sp) (rs.map (·.2)).length := by
        rw [List.length_map];refine z5l pm (List.pairwise_iff_getElem.mpr fun a b ha hb hab => ?_);have h0 := List.pairwise_iff_getElem.mp pw a b ha hb hab;have ka : ∀ i, i < rs.length → z7d (rs.map (·.2)) sp i = (rs.getD i (0, [])).2.getD sp 0 := fun i hi => by
          unfold z7d;rw [z5B hi, List.getD_eq_getElem?_getD (l := rs), List.getElem?_eq_getElem hi]
          rfl
        have ma := mem _ (List.getElem_mem ha);have mb := mem _ (List.getElem_mem hb);rw [pk _ ma, pk _ mb] at h0;have h0 := of_decide_eq_false h0;refine decide_eq_true ?_;rw [ka _ ma, ka _ mb];replace h0 : ¬ ((rs.getD is[b] (0, [])).2.getD sp 0 < (rs.getD is[a] (0, [])).2.getD sp 0 ∨ (rs.getD is[b] (0, [])).2.getD sp 0 = (rs.getD is[a] (0, [])).2.getD sp 0 ∧ ((is[b] : Nat) : Int) < ((is[a] : Nat) : Int)) := h0;omega
      rw [← e0, List.map_map];refine List.map_congr_left fun i hi => ?_
      have hir := mem i hi
      show (rs.getD i (0, [])).2 = _
      rw [z5B hir, List.getD_eq_getElem?_getD, List.getElem?_eq_getElem hir]
      rfl

theorem z5W {s i : Nat} {rows : List (List Int)} {r : List Int} (h : rows[i]? = some r) : z0k s (rows.take (i + 1)) = if r.getD s 0 ∈ z0k s (rows.take i) then z0k s (rows.take i) else z0k s (rows.take i) ++ [r.getD s 0] := by
  unfold z0k;rw [List.take_add_one, h, List.foldl_append]
  rfl
theorem z46 {s : Nat} (rows : List (List Int)) : (z0k s rows).length ≤ rows.length := by
  have go : ∀ (rows : List (List Int)) (acc : List Int), (rows.foldl (fun acc r => if r.getD s 0 ∈ acc then acc else acc ++ [r.getD s 0]) acc).length ≤ acc.length + rows.length := by
    intro rows
    induction rows with
    | nil => intro acc; exact Nat.le_refl _
    | cons r rows ih =>
      intro acc;rw [List.foldl_cons, List.length_cons];refine Nat.le_trans (ih _) ?_;split
      · omega
      · rw [List.length_append, List.length_singleton]; omega
  have := go rows [];rw [List.length_nil, Nat.zero_add] at this;exact this
theorem z73 {x : Int} : ∀ {xs : List Int}, inV (.int x) (xs.map V.int) = decide (x ∈ xs)
  | [] => by simp [inV]
  | y :: ys => by
    have ih := z73 (x := x) (xs := ys);unfold inV at ih ⊢;rw [List.map_cons, List.any_cons, ih]
    show ((y == x) || decide (x ∈ ys)) = _
    by_cases h : y = x
    · subst h; simp
    · rw [show (y == x) = false by simpa using h, Bool.false_or];by_cases m : x ∈ ys
      · simp [m]
      · have hxy : ¬ x = y := fun z => h z.symm
        simp [m, hxy]
theorem z7t (xs : List Int) : (xs.map V.int).all z0e = true := by
  rw [List.all_map];exact List.all_eq_true.mpr fun _ _ => rfl
def z2m (K : PySem.W.Frag) : Sp := fun vs H Q _ => ∃ (th : Str → List Str) (tr : Str → List (List Int)) (q : Qn) (v : V) (seed : Int) (g : Str), vs = [v, .int seed, .str g] ∧ TabOk th tr ∧ kh th tr H v q ∧ okQ th q ∧ g.length = 1 ∧ (zz q).length ≤ 4000000 ∧ (rowsOf th tr q).length ≤ 100000 ∧
  ∀ (v' : V) (a b : Str) (H' : Hp), zM H H' → kh th tr H' v' (.group a b (("n" : Str) ++ g) (("s" : Str) ++ g) q) → a ∈ zo th q → b ∈ zo th q → Q v' H'
theorem ja : FnScope ["_law_state", "_law_seed", "_law_sign", "_law_by", "_law_of", "_law_spot", "_law_place", "_law_rows", "_law_row", "_law_same", "_law_total", "_law_names", "_law_line", "_law_question"] ["_law_state", "_law_seed", "_law_sign"] (zv jz) := ⟨rfl, rfl, rfl, by decide +kernel, rfl, by decide +kernel, by decide +kernel⟩
theorem z2P (F : Fun K "_law_counted" "_law_counted" jz f fd) (T : Txt K mg) : FnOk P w K mg base CX0 1 f fd ["_law_state", "_law_seed", "_law_sign"] (z2m K) := by
  refine F.ok ja (fun vs H Q E h => ?_) (fun cdv A outer s H vs Q E hr h => ?_)
  · obtain ⟨th, tr, q, v, seed, g, rfl, _⟩ := h
    rfl
  obtain ⟨th, tr, q, v, seed, g, rfl, TT, hst, hok, gl, hli, hro, fin⟩ := h;obtain ⟨p, qv, hp, rp, rs, rfl, h1, h2, h3, h4, h5⟩ := hst;obtain ⟨hne, hnd⟩ := jU TT hok;have hnl := ji TT hok;have hrl := jO TT hok;have hlr : (refs rs).length = rs.length := List.length_map _;have hrc : rs.length ≤ 100000 := by rw [← h5, List.length_map] at hro; exact hro
  have hlen : (0 : Int) < ((((zo th q).map V.str).length : Nat) : Int) := by
    have := List.length_pos_iff.mpr hne;rw [List.length_map]; omega
  obtain ⟨a, ma, ea⟩ := z0J (i := seed) hne;obtain ⟨b, mb, eb⟩ := z0J (i := seed / 2) hne;have ia := kv ma;have ib := kv mb;have la := hnl a ma;have lb := hnl b mb;refine ⟨_, (zj (zu (i := 3) ja.nd rfl (Or.inl rfl) (zw zT (zw zx (pv 0) zd (fun _ _ => rfl)) (zr j8 (pv 1) (zI zK rfl T.len PySem.boot_len (zF (zw zx (pv 0) zd (fun _ _ => rfl)) zi))) (fun _ _ => rfl)))
    (zj (zu (i := 4) ja.nd rfl (Or.inl rfl) (zw zT (zw zx (pv 0) zd (fun _ _ => rfl)) (zr j8 (zr yk (pv 1) zd) (zI zK rfl T.len PySem.boot_len (zF (zw zx (pv 0) zd (fun _ _ => rfl)) zi))) (fun _ _ => rfl)))
    (zj (zu (i := 5) ja.nd rfl (Or.inr rfl) (jZ PySem.F.plainAttrs_list PySem.F.slot_list_index PySem.F.type_list_index z0f (zw zx (pv 0) zd (fun _ _ => rfl)) (zl (pv 3) zi)))
    (zj (zu (i := 6) ja.nd rfl (Or.inr rfl) (jZ PySem.F.plainAttrs_list PySem.F.slot_list_index PySem.F.type_list_index z0f (zw zx (pv 0) zd (fun _ _ => rfl)) (zl (pv 4) zi)))
    (zj (zu (i := 7) ja.nd rfl (Or.inl rfl) (zV zi))
    (zj (z02 PassesOwn.never rfl (kc (zw zx (pv 0) zd (fun _ _ => rfl))) (yQ (i := 8) ja.nd rfl (Or.inr rfl))
      (zq (jc (zG z27 (zw zT (pv 8) (pv 5) (fun _ _ => rfl)) (z1n rfl (CompSc.of (sx := zv jz) (NX := ["_law_state", "_law_seed", "_law_sign", "_law_by", "_law_of", "_law_spot", "_law_place", "_law_rows", "_law_row", "_law_same", "_law_total", "_law_names", "_law_line", "_law_question"]) (fr := []) (ix := []) rfl rfl (by decide +kernel)) (kc (pv 7)) (fun _ _ _ _ _ _ => kf) (fun _ _ _ _ _ _ => (zw (kF (K := K) rfl) (pv 0) zd (fun _ _ => rfl)))) (by with_unfolding_all rfl))
        (zj (yD (j := 9) rfl ja.nd rfl (Or.inl rfl) (CompSc.of (sx := zv jz) (NX := ["_law_state", "_law_seed", "_law_sign", "_law_by", "_law_of", "_law_spot", "_law_place", "_law_rows", "_law_row", "_law_same", "_law_total", "_law_names", "_law_line", "_law_question"]) (fr := ["_law_spot", "_law_row"]) (ix := [5, 8]) rfl rfl (by decide +kernel)) (kc (zw zx (pv 0) zd (fun _ _ => rfl))) (fun _ _ _ _ _ _ => (z4V (zG jm (zw (kF (K := K) rfl) (pv 0) (pv 1) (fun _ _ => rfl)) (zw (kF (K := K) rfl) (pv 2) (pv 1) (fun _ _ => rfl)) (zN _)))) (fun _ _ _ _ _ _ => (pv 0)))
        (zj (zu (i := 10) ja.nd rfl (Or.inl rfl) (zI (z0W rfl) rfl T.sum PyProof.Rows.boot_sum (z70 (z1n rfl (CompSc.of (sx := zv jz) (NX := ["_law_state", "_law_seed", "_law_sign", "_law_by", "_law_of", "_law_spot", "_law_place", "_law_rows", "_law_row", "_law_same", "_law_total", "_law_names", "_law_line", "_law_question"]) (fr := ["_law_place"]) (ix := [6]) rfl rfl (by decide +kernel)) (kc (pv 9)) (fun _ _ _ _ _ _ => kf) (fun _ _ _ _ _ _ => (zw (kF (K := K) rfl) (pv 0) (pv 1) (fun _ _ => rfl)))) zi)))
        (zq (kW (jZ PySem.F.plainAttrs_list PySem.F.slot_list_append PySem.F.type_list_append yK (pv 7) (kU (zV (zF (zw zT (pv 8) (pv 5) (fun _ _ => rfl)) (ya (zI zK rfl T.len PySem.boot_len (zl (pv 9) zi)) (zl (pv 10) zi)))) zi))))))
        zQ)))
    (zj (zu (i := 11) ja.nd rfl (Or.inl rfl) (zr zp (zr zp (zr zp (zr zp (zr zp (zr zp (pv 3) zm) (pv 4)) zm) (pv 2)) zm) (pv 2)))
    (zj (zu (i := 12) ja.nd rfl (Or.inl rfl) (zr zp (zr zp (zr zp (zr zp zm (pv 11)) zm) (zw zx (pv 0) zd (fun _ _ => rfl))) zm))
    (zj (zu (i := 13) ja.nd rfl (Or.inl rfl) (zJ (zn zm (zl (pv 3) (zl (pv 4) (yd (zr zp zm (pv 2)) (yd (zr zp zm (pv 2)) (zF (zw zx (pv 0) zd (fun _ _ => rfl)) zi))))))))
    (zq (zR (zJ (zl (pv 13) (zl (pv 12) (kU (zV (zl (pv 3) (yd (zr zp zm (pv 2)) (yd (zr zp zm (pv 2)) zi)))) (zl (pv 7) zi)))))))))))))))), ?_⟩
  refine ⟨_, rfl, p, _, _, _, rfl, rfl, SqT.of h1, yO, _, rfl, _, rfl, p, _, _, _, rfl, rfl, SqT.of h1, yO, hp, _, rfl, .inl (SqL.of h3), _, _, rfl, rfl, hlen, hp, _, _, _, rfl, rfl, SqL.of h3, ea, ?_⟩;refine ⟨_, rfl, p, _, _, _, rfl, rfl, SqT.of h1, yO, _, rfl, _, _, rfl, rfl, ⟨by decide, by decide⟩, _, rfl, p, _, _, _, rfl, rfl, SqT.of h1, yO, hp, _, rfl, .inl (SqL.of h3), _, _, rfl, rfl, hlen, hp, _, _, _, rfl, rfl, SqL.of h3, eb, ?_⟩;refine ⟨_, rfl, p, _, _, _, rfl, rfl, SqT.of h1, yO, .inl ⟨rfl, _, SqL.of h3⟩, _, rfl, hp, _, _, (zo th q).idxOf a, rfl, rfl, SqL.of h3, rfl, yX _, ia.1, ia.2, ?_⟩;refine ⟨_, rfl, p, _, _, _, rfl, rfl, SqT.of h1, yO, .inl ⟨rfl, _, SqL.of h3⟩, _, rfl, hp, _, _, (zo th q).idxOf b, rfl, rfl, SqL.of h3, rfl, yX _, ib.1, ib.2, ?_⟩;have rw' : ∀ r ∈ rs, r.2.length = (zo th q).length := fun r m => hrl r.2 (by rw [← h5]; exact List.mem_map.mpr ⟨_, m, rfl⟩)
  have sla : ∀ r ∈ rs, (zo th q).idxOf a < r.2.length := fun r m => by rw [rw' r m]; exact List.idxOf_lt_length_iff.mpr ma
  have slb : ∀ r ∈ rs, (zo th q).idxOf b < r.2.length := fun r m => by rw [rw' r m]; exact List.idxOf_lt_length_iff.mpr mb
  generalize hsa : (zo th q).idxOf a = sa at sla;generalize hsb : (zo th q).idxOf b = sb at slb;refine ⟨zt (by show 0 ≤ _; decide), fun wp hwp => ?_⟩;refine zc (upd _ wp _) rfl hwp fun H1 n1 x1 => ?_
  have nrp : ∀ r ∈ rs, r.1 ≠ wp := fun r m => zy (h4.2 r m).2 hwp
  refine ⟨_, rfl, p, _, _, _, rfl, rfl, SqT.of (n1 _ _ h1), z0I, rp, rfl, ⟨_, SqL.of (n1 _ _ h4.1)⟩, z1f (K := K) (a := rp) (xs := refs rs) (fun i σ H' => ∃ (qs : List (Addr × List Int)) (o8 o9 o10 : Option V), σ = [some (.ref p), some (.int seed), some (.str g), some (.str a), some (.str b), some (.int ((sa : Nat) : Int)), some (.int ((sb : Nat) : Int)), some (.ref wp), o8, o9, o10, none, none, none] ∧ zM H H' ∧ jg H' wp qs ∧
    qs.map (·.2) = (z0k sa ((rs.map (·.2)).take i)).map (z2X sa sb (rs.map (·.2)))) ⟨[], none, none, none, rfl, n1, kH x1, rfl⟩ (fun i σ H' _ ⟨_, _, _, _, _, sm, _⟩ => SqL.of (sm _ _ h4.1)) ?_ ?_⟩
  · rintro i x σ H2 hi ⟨qs, o8, o9, o10, rfl, s2, w2, e2⟩;have hir : i < rs.length := by
      have := (List.getElem?_eq_some_iff.mp hi).1
      rwa [hlr] at this
    rw [z0g hir] at hi;cases hi;have kl : (z0k sa ((rs.map (·.2)).take i)).length ≤ 100000 := by
      have := z46 (s := sa) ((rs.map (·.2)).take i);rw [List.length_take, List.length_map] at this;omega
    have lq : qs.length = (z0k sa ((rs.map (·.2)).take i)).length := by
      have := congrArg List.length e2
      rwa [List.length_map, List.length_map] at this
    have hlq : (refs qs).length = qs.length := List.length_map _;have kt := z5W (s := sa) (z39 hir);have hR := s2 _ _ (h4.2 _ (List.getElem_mem hir)).2;have ssa := sla _ (List.getElem_mem hir);have qk : qs.map (fun r => r.2.getD 0 0) = z0k sa ((rs.map (·.2)).take i) := by
      have := congrArg (List.map fun r : List Int => r.getD 0 0) e2;rw [List.map_map, List.map_map] at this;refine this.trans ?_
      conv => rhs; rw [← List.map_id (z0k sa ((rs.map (·.2)).take i))]
      rfl
    have q3 : ∀ r ∈ qs, r.2.length = 3 := fun r m => by
      have : r.2 ∈ qs.map (·.2) := List.mem_map.mpr ⟨r, m, rfl⟩;rw [e2] at this;obtain ⟨k, _, e⟩ := List.mem_map.mp this;rw [← e]
      rfl
    generalize z0k sa ((rs.map (·.2)).take i) = ks at e2 kl lq kt qk;refine ⟨_, rfl, _, rfl, rs[i].1, _, _, _, rfl, rfl, SqL.of hR, jr (int_at ssa), _, rfl, wp, rfl, ⟨_, SqL.of w2.1⟩, ?_⟩;refine z0d (xs := refs qs) (fun m ys H' => H' = H2 ∧ ys = ((qs.take m).map fun r => r.2.getD 0 0).map V.int) ⟨rfl, rfl⟩ ?_ ?_ ?_
    · rintro m ys H3 hm ⟨rfl, rfl⟩;exact ⟨SqL.of w2.1, jj (by rw [List.length_map, List.length_map, List.length_take]; omega)⟩
    · rintro m x ys H3 hm ⟨rfl, rfl⟩;have hmq : m < qs.length := by
        have := (List.getElem?_eq_some_iff.mp hm).1
        rwa [hlq] at this
      rw [z0g hmq] at hm;cases hm;refine ⟨_, rfl, qs[m].1, _, _, _, rfl, rfl, SqL.of (w2.2 _ (List.getElem_mem hmq)).2, jr (j := 0) (int_at (by rw [q3 _ (List.getElem_mem hmq)]; decide)), rfl, ?_⟩;rw [List.take_add_one, List.getElem?_eq_getElem hmq, List.map_append, List.map_append]
      rfl
    · rintro ys H3 ⟨rfl, rfl⟩ lp hlp;rw [hlq, List.take_length, qk];refine zc (upd _ lp _) rfl hlp fun H3 n3 x3 => ?_
      refine ⟨lp, _, rfl, .inl (SqL.of x3), rfl, z7t _, _, rfl, ?_⟩;rw [z73];have s3 := s2.trans n3;have w3 := w2.same n3;refine yu (fun hb => ?_) (fun hb => ?_)
      · have hb' : ¬ rs[i].2.getD sa 0 ∈ ks := by simpa using hb
        rw [if_neg hb'] at kt;have j3 := h4.same s3;refine ⟨_, rfl, p, _, _, _, rfl, rfl, SqT.of (s3 _ _ h1), z0I, rp, rfl, ⟨_, SqL.of j3.1⟩, ?_⟩;refine z1p (xs := refs rs) (fun m ys H' => H' = H3 ∧ ys = refs ((rs.take m).filter fun r => decide (r.2.getD sa 0 = rs[i].2.getD sa 0))) ⟨rfl, rfl⟩ ?_ ?_ ?_
        · rintro m ys H4 hm ⟨rfl, rfl⟩;refine ⟨SqL.of j3.1, jj ?_⟩;have := List.length_filter_le (fun r : Addr × List Int => decide (r.2.getD sa 0 = rs[i].2.getD sa 0)) (rs.take m);rw [List.length_map];rw [List.length_take] at this;omega
        · rintro m x ys H4 hm ⟨rfl, rfl⟩;have hmr : m < rs.length := by
            have := (List.getElem?_eq_some_iff.mp hm).1
            rwa [hlr] at this
          rw [z0g hmr] at hm;cases hm;have ft := z0Y (fun r : Addr × List Int => decide (r.2.getD sa 0 = rs[i].2.getD sa 0)) rs (List.getElem?_eq_getElem hmr);refine ⟨_, rfl, _, rfl, rs[m].1, _, _, _, rfl, rfl, SqL.of (j3.2 _ (List.getElem_mem hmr)).2, jr (int_at (sla _ (List.getElem_mem hmr))), _, rfl, _, rfl, rs[i].1, _, _, _, rfl, rfl, SqL.of (j3.2 _ (List.getElem_mem hir)).2, jr (int_at ssa), rfl, _, rfl, ?_⟩;rw [z0U];refine yu (fun hc => ?_) (fun hc => ?_)
          · refine ⟨_, rfl, rfl, ?_⟩;rw [ft, if_pos hc];simp [refs]
          · refine ⟨rfl, ?_⟩;rw [ft, if_neg hc, List.append_nil]
        · rintro ys H4 ⟨rfl, rfl⟩ mp hmp;rw [hlr, List.take_length];refine zc (upd _ mp _) rfl hmp fun H4 n4 x4 => ?_
          have s4 := s3.trans n4;have fl : (rs.filter fun r => decide (r.2.getD sa 0 = rs[i].2.getD sa 0)).length ≤ rs.length := List.length_filter_le _ _;have fm : ∀ r ∈ rs.filter (fun r => decide (r.2.getD sa 0 = rs[i].2.getD sa 0)), r ∈ rs := fun r m => (List.mem_filter.mp m).1
          have fe : (rs.filter fun r => decide (r.2.getD sa 0 = rs[i].2.getD sa 0)).map (·.2) = (rs.map (·.2)).filter fun r => decide (r.getD sa 0 = rs[i].2.getD sa 0) := by
            rw [List.filter_map]
            rfl
          generalize (rs.filter fun r => decide (r.2.getD sa 0 = rs[i].2.getD sa 0)) = fs at x4 fl fm fe;have hlf : (refs fs).length = fs.length := List.length_map _;have j4 := h4.same s4;refine ⟨_, rfl, mp, rfl, ⟨_, SqL.of x4⟩, ?_⟩;refine z0d (xs := refs fs) (fun m ys H' => H' = H4 ∧ ys = ((fs.take m).map fun r => r.2.getD sb 0).map V.int) ⟨rfl, rfl⟩ ?_ ?_ ?_
          · rintro m ys H5 hm ⟨rfl, rfl⟩;exact ⟨SqL.of x4, jj (by rw [List.length_map, List.length_map, List.length_take]; omega)⟩
          · rintro m x ys H5 hm ⟨rfl, rfl⟩;have hmf : m < fs.length := by
              have := (List.getElem?_eq_some_iff.mp hm).1
              rwa [hlf] at this
            rw [z0g hmf] at hm;cases hm;have mr := fm _ (List.getElem_mem hmf);refine ⟨_, rfl, _, rfl, fs[m].1, _, _, _, rfl, rfl, SqL.of (j4.2 _ mr).2, jr (int_at (slb _ mr)), rfl, ?_⟩;rw [List.take_add_one, List.getElem?_eq_getElem hmf, List.map_append, List.map_append]
            rfl
          · rintro ys H5 ⟨rfl, rfl⟩ tp htp;rw [hlf, List.take_length];refine zc (upd _ tp _) rfl htp fun H5 n5 x5 => ?_
            refine ⟨tp, _, rfl, SqL.of x5, ?_⟩;have s5 := s4.trans n5;have w5 := w3.same (n4.trans n5);refine ⟨_, rfl, .inl ⟨rfl, _, SqL.of w5.1⟩, _, rfl, _, rfl, rs[i].1, _, _, _, rfl, rfl, SqL.of (s5 _ _ (h4.2 _ (List.getElem_mem hir)).2), jr (int_at ssa), _, rfl, mp, _, rfl, .inl (SqL.of (n5 _ _ x4)), _, rfl, zt (by show 3 ≤ _; decide), fun gp hgp => ?_⟩;have n6 := jB hgp (.lst [V.int (rs[i].2.getD sa 0), V.int (((refs fs).length : Nat) : Int), V.int (fs.map fun r => r.2.getD sb 0).sum]);have w6 := w5.same n6;refine ⟨wp, _, _, rfl, rfl, w6.1, jj (by rw [List.length_map]; omega), ?_⟩;have nq : gp ≠ wp := (zy w5.1 hgp).symm;refine ⟨qs ++ [(gp, [rs[i].2.getD sa 0, ((fs.length : Nat) : Int), (fs.map fun r => r.2.getD sb 0).sum])], _, _, _, rfl, (s5.trans n6).put hwp, w6.push nq (by rw [zU, hlf]; rfl), ?_⟩;rw [List.map_append, e2, kt, List.map_append]
            congr 1
            show [_] = [z2X sa sb (rs.map (·.2)) (rs[i].2.getD sa 0)]
            unfold z2X;rw [← fe, List.length_map, List.map_map]
            rfl
      · have hb' : rs[i].2.getD sa 0 ∈ ks := by simpa using hb
        rw [if_pos hb'] at kt;refine ⟨qs, _, _, _, rfl, s3, w3, ?_⟩;rw [e2, kt]
  · rintro σ H2 ⟨qs, o8, o9, o10, rfl, s2, w2, e2⟩;rw [hlr, show (rs.map (·.2)).take rs.length = rs.map (·.2) from List.take_of_length_le (by rw [List.length_map]; exact Nat.le_refl _)] at e2;have g1 := s2 _ _ h1;refine ⟨_, rfl, _, _, rfl, rfl, by (walk_at "sl"), _, rfl, _, _, rfl, rfl, by (walk_at "sl"), _, _, rfl, rfl, by (walk_at "sl"), _, rfl, _, _, rfl, rfl, by (walk_at "sl"), _, _, rfl, rfl, by (walk_at "sl"), _, rfl, _, _, rfl, rfl, by (walk_at "sl"), ?_⟩;refine ⟨_, rfl, _, _, rfl, rfl, by (walk_at "sl"), _, _, rfl, rfl, by (walk_at "sl"), _, rfl, p, _, _, _, rfl, rfl, SqT.of g1, yE, _, _, rfl, rfl, by (walk_at "sl"), _, _, rfl, rfl, by (walk_at "sl"), ?_⟩;refine ⟨_, rfl, _, rfl, _, rfl, _, _, rfl, rfl, by (walk_at "sl"), _, rfl, _, _, rfl, rfl, by (walk_at "sl"), _, rfl, p, _, _, _, rfl, rfl, SqT.of g1, yc, zt (by show 6 ≤ _; decide), fun qp hqp => ?_⟩;refine zc (upd _ qp _) rfl hqp fun H3 n3 x3 => ?_
    refine ⟨_, rfl, _, rfl, _, rfl, _, rfl, _, _, rfl, rfl, by (walk_at "sl"), _, rfl, _, _, rfl, rfl, by (walk_at "sl"), zt (by show 3 ≤ _; decide), fun lp hlp => ?_⟩;refine zc (upd _ lp _) rfl hlp fun H4 n4 x4 => ?_
    refine ⟨_, rfl, zt (by show 4 ≤ _; decide), fun sp hsp => ?_⟩;refine zc (upd _ sp _) rfl hsp fun H5 n5 x5 => ?_
    have s25 := n3.trans (n4.trans n5);have s5 := s2.trans s25;have el : (("(group " : Str) ++ (a ++ " " ++ b ++ " n" ++ g ++ " s" ++ g) ++ " " ++ zz q ++ ")" : Str) = zz (.group a b (("n" : Str) ++ g) (("s" : Str) ++ g) q) := by
      simp only [zz];have e1 : (" n" : Str) = (" " : Str) ++ ("n" : Str) := by decide +kernel
      have e2 : (" s" : Str) = (" " : Str) ++ ("s" : Str) := by decide +kernel
      rw [e1, e2];simp only [Str.append_assoc]
    rw [el] at x5;refine fin _ a b _ s5 ⟨sp, _, lp, wp, qs, rfl, x5, ⟨qp, qv, rfl, n5 _ _ (n4 _ _ x3), h2.same s5⟩, n5 _ _ x4, w2.same s25, ?_⟩ ma mb;rw [e2, h5];simp only [rowsOf, z8U, hsa, hsb]

structure Rt (th : Str → List Str) (tr : Str → List (List Int)) (n : Str) (r : Qn) (k : Nat) : Prop where
  ok : okQ th r
  hd : zo th r = th n
  ln : (rowsOf th tr r).length ≤ (tr n).length
  li : (zz r).length ≤ 10 + 100 * k
  dp : depth r ≤ 1 + 2 * k
structure Un2 (th : Str → List Str) (tr : Str → List (List Int)) (q : Qn) (n : Str) (q' : Qn) : Prop where
  ok : okQ th q'
  hd : zo th q' = zo th q ++ th n ∨ zo th q' = th n ++ zo th q
  ln : (rowsOf th tr q').length ≤ (rowsOf th tr q).length * (tr n).length
  li : (zz q').length ≤ (zz q).length + 600
  dp : depth q' ≤ max (depth q) 5 + 2
  nt : ∀ m, q' ≠ .table m
theorem pairs_len (xs ys : List (List Int)) : (pairs xs ys).length = xs.length * ys.length := by
  unfold pairs
  induction xs with
  | nil => simp
  | cons x xs ih =>
    rw [List.flatMap_cons, List.length_append, List.length_map, ih, List.length_cons, Nat.add_mul, Nat.one_mul, Nat.add_comm]
theorem z6e {xs ys : List (List Int)} {i : Nat} {x : List Int} (h : xs[i]? = some x) : pairs (xs.take (i + 1)) ys = pairs (xs.take i) ys ++ ys.map fun y => x ++ y := by
  unfold pairs;rw [List.take_add_one, h, List.flatMap_append];simp
theorem z4c (s : Nat) (rows : List (List Int)) : (z2E s rows).length = rows.length := by
  unfold z2E;rw [List.length_map, z6k]
def z3p (K : PySem.W.Frag) : Sp := fun vs H Q _ => ∃ (th : Str → List Str) (tr : Str → List (List Int)) (q : Qn) (n : Str) (v tv : V) (seed : Int), vs = [v, tv, .int seed] ∧ TabOk th tr ∧ kh th tr H v q ∧ okQ th q ∧ TabAt th tr H tv n ∧ n ∈ tabs ∧ (∀ x ∈ zo th q, x ∉ th n) ∧
  (zz q).length ≤ 4000000 ∧ (rowsOf th tr q).length ≤ 1000 ∧ (tr n).length < 64 ∧ (zo th q).length ≤ 1000 ∧ (th n).length ≤ 1000 ∧
  ∀ (v' : V) (q' : Qn) (H' : Hp), zM H H' → kh th tr H' v' q' → Un2 th tr q n q' → Q v' H'
theorem z8S : ∀ n ∈ tabs, n.length ≤ 10 := by decide +kernel
theorem z6Q {hs : List Str} {r : List Int} {s : Str} (h : s ∈ hs) (hl : r.length = hs.length) : hs.idxOf s < r.length := by rw [hl]; exact List.idxOf_lt_length_iff.mpr h
theorem zL : FnScope ["_law_state", "_law_table", "_law_seed", "_law_left", "_law_right", "_law_heads", "_law_rows", "_law_one", "_law_two", "_law_name", "_law_other", "_law_line", "_law_question", "_law_spot", "_law_place", "_law_same"] ["_law_state", "_law_table", "_law_seed"] (zv yg) := ⟨rfl, rfl, rfl, by decide +kernel, rfl, by decide +kernel, by decide +kernel⟩
set_option maxHeartbeats 1600000 in
theorem z35 (F : Fun K "_law_united" "_law_united" yg f fd) (T : Txt K mg) (C_law_sorted : Kn P w K mg base 1 "_law_sorted" ["_law_state", "_law_seed"] (z1T K)) (C_law_headed : Kn P w K mg base 1 "_law_headed" ["_law_state", "_law_seed"] (z1N K)) : FnOk P w K mg base CX0 2 f fd ["_law_state", "_law_table", "_law_seed"] (z3p K) := by
  refine F.ok zL (fun vs H Q E h => ?_) (fun cdv A outer s H vs Q E hr h => ?_)
  · obtain ⟨th, tr, q, n, v, tv, seed, rfl, _⟩ := h
    rfl
  obtain ⟨th, tr, q, n, v, tv, seed, rfl, TT, hst, hok, ht, mn, dj, hli, hro, hrt, hhl, hht, fin⟩ := h;obtain ⟨tp, thp, trp, ts, rfl, t1, t3, t4, t5⟩ := ht;have nl := z8S n mn;have hu := z6Z hr;refine ⟨_, (zj (zu (i := 3) zL.nd rfl (Or.inl rfl) (pv 0))
    (zj (zu (i := 4) zL.nd rfl (Or.inl rfl) (zJ (zS (zJ (zn zm (zF (zw zx (pv 1) zd (fun _ _ => rfl)) zi))) (zF (zw zx (pv 1) zd (fun _ _ => rfl)) (zF (zw zx (pv 1) zd (fun _ _ => rfl)) (zF (zw zx (pv 1) zd (fun _ _ => rfl)) zi))))))
    (zj (kN (zG jm (zr j8 (pv 2) zd) zd (zN _))
      (zq (zu (i := 4) zL.nd rfl (Or.inl rfl) (zX C_law_sorted hr.m rfl (zl (pv 4) (yd (zr yk (pv 2) zd) zi)))))
      zQ)
    (zj (kN (zG jm (zr j8 (pv 2) zd) zd (zN _))
      (zq (zu (i := 4) zL.nd rfl (Or.inl rfl) (zX C_law_headed hr.m rfl (zl (pv 4) (zn zd zi)))))
      zQ)
    (zj (kN (zG jm (zr j8 (zr yk (pv 2) zd) zd) zd (zN _))
      (zj (zu (i := 3) zL.nd rfl (Or.inl rfl) (pv 4))
      (zq (zu (i := 4) zL.nd rfl (Or.inl rfl) (pv 0))))
      zQ)
    (zj (zu (i := 5) zL.nd rfl (Or.inl rfl) (zr jR (zw zx (pv 3) zd (fun _ _ => rfl)) (zw zx (pv 4) zd (fun _ _ => rfl))))
    (zj (zu (i := 6) zL.nd rfl (Or.inl rfl) (zV zi))
    (zj (z02 PassesOwn.never rfl (kc (zw zx (pv 3) zd (fun _ _ => rfl))) (yQ (i := 7) zL.nd rfl (Or.inl rfl))
      (zq (z02 PassesOwn.never rfl (kc (zw zx (pv 4) zd (fun _ _ => rfl))) (yQ (i := 8) zL.nd rfl (Or.inl rfl))
        (zq (kW (jZ PySem.F.plainAttrs_list PySem.F.slot_list_append PySem.F.type_list_append yK (pv 6) (yd (zr jR (pv 7) (pv 8)) zi)))))))
    (zj (zu (i := 9) zL.nd rfl (Or.inl rfl) (zw zT (zw zx (pv 3) zd (fun _ _ => rfl)) (zr j8 (zr yk (pv 2) zd) (zI zK rfl T.len PySem.boot_len (zF (zw zx (pv 3) zd (fun _ _ => rfl)) zi))) (fun _ _ => rfl)))
    (zj (zu (i := 10) zL.nd rfl (Or.inl rfl) (zw zT (zw zx (pv 4) zd (fun _ _ => rfl)) (zr j8 (zr yk (pv 2) zd) (zI zK rfl T.len PySem.boot_len (zF (zw zx (pv 4) zd (fun _ _ => rfl)) zi))) (fun _ _ => rfl)))
    (zj (zu (i := 11) zL.nd rfl (Or.inl rfl) (zr zp (zr zp (zr zp (zr zp zm (zw zx (pv 3) zd (fun _ _ => rfl))) zm) (zw zx (pv 4) zd (fun _ _ => rfl))) zm))
    (zj (zu (i := 12) zL.nd rfl (Or.inl rfl) (zJ (zn zm (zF (zw zx (pv 3) zd (fun _ _ => rfl)) (zF (zw zx (pv 4) zd (fun _ _ => rfl)) zi)))))
    (zj (jc (zG jm (zr j8 (pv 2) zd) zd (zN _))
      (zq (zR (zJ (zl (pv 12) (zl (pv 11) (zl (pv 5) (zl (pv 6) zi)))))))
      zQ)
    (zj (zu (i := 13) zL.nd rfl (Or.inr rfl) (jZ PySem.F.plainAttrs_list PySem.F.slot_list_index PySem.F.type_list_index z0f (pv 5) (zl (pv 9) zi)))
    (zj (zu (i := 14) zL.nd rfl (Or.inr rfl) (jZ PySem.F.plainAttrs_list PySem.F.slot_list_index PySem.F.type_list_index z0f (pv 5) (zl (pv 10) zi)))
    (zj (yD (j := 15) rfl zL.nd rfl (Or.inl rfl) (CompSc.of (sx := zv yg) (NX := ["_law_state", "_law_table", "_law_seed", "_law_left", "_law_right", "_law_heads", "_law_rows", "_law_one", "_law_two", "_law_name", "_law_other", "_law_line", "_law_question", "_law_spot", "_law_place", "_law_same"]) (fr := ["_law_spot", "_law_place"]) (ix := [13, 14]) rfl rfl (by decide +kernel)) (kc (pv 6)) (fun _ _ _ _ _ _ => (z4V (zG jm (zw (kF (K := K) rfl) (pv 0) (pv 1) (fun _ _ => rfl)) (zw (kF (K := K) rfl) (pv 0) (pv 2) (fun _ _ => rfl)) (zN _)))) (fun _ _ _ _ _ _ => (pv 0)))
    (zj (jc (z1O (zG (z5n hu) (pv 15) (zV zi) (zN _)) (zG z3e (zr j8 (pv 2) zd) zd (zN _)))
      (zq (zR (zJ (zl (pv 12) (zl (pv 11) (zl (pv 5) (zl (pv 6) zi)))))))
      zQ)
    (zj (zu (i := 6) zL.nd rfl (Or.inl rfl) (pv 15))
    (zj (kN (zG jm (zr j8 (pv 2) zd) zd (zN _))
      (zj (zu (i := 11) zL.nd rfl (Or.inl rfl) (zr zp (zr zp (zr zp (zr zp (zr zp (zr zp (zr zp (zr zp zm (pv 9)) zm) (pv 10)) zm) (zw zx (pv 3) zd (fun _ _ => rfl))) zm) (zw zx (pv 4) zd (fun _ _ => rfl))) zm))
      (zq (zu (i := 12) zL.nd rfl (Or.inl rfl) (zJ (zn zm (zl (pv 9) (zl (pv 10) (zF (zw zx (pv 3) zd (fun _ _ => rfl)) (zF (zw zx (pv 4) zd (fun _ _ => rfl)) zi)))))))))
      (zq (jc (zG jm (zr j8 (pv 2) zd) zd (zN _))
        (zj (zu (i := 11) zL.nd rfl (Or.inl rfl) (zr zp (zr zp (zr zp (zr zp (zr zp (zr zp zm (pv 10)) zm) (pv 9)) zm) (pv 11)) zm))
        (zq (zu (i := 12) zL.nd rfl (Or.inl rfl) (zJ (zn zm (zS (zJ (zn zm (zl (pv 10) (zl (pv 9) zi)))) (zl (pv 12) zi)))))))
        (zj (zu (i := 11) zL.nd rfl (Or.inl rfl) (zr zp (zr zp (zr zp (zr zp (zr zp (zr zp zm (pv 9)) zm) (pv 10)) zm) (pv 11)) zm))
        (zq (zu (i := 12) zL.nd rfl (Or.inl rfl) (zJ (zn zm (zS (zJ (zn zm (zl (pv 9) (zl (pv 10) zi)))) (zl (pv 12) zi))))))))))
    (zq (zR (zJ (zl (pv 12) (zl (pv 11) (zl (pv 5) (zl (pv 6) zi)))))))))))))))))))))))))), ?_⟩
  refine ⟨_, rfl, ?_⟩;refine ⟨_, rfl, tp, _, _, _, rfl, rfl, SqT.of t1, yc, zt (by show 2 ≤ _; decide), fun qp hqp => ?_⟩;refine zc (upd _ qp _) rfl hqp fun H1 n1 x1 => ?_
  have t1' := n1 _ _ t1;refine ⟨_, rfl, tp, _, _, _, rfl, rfl, SqT.of t1', yc, _, rfl, tp, _, _, _, rfl, rfl, SqT.of t1', yE, _, rfl, tp, _, _, _, rfl, rfl, SqT.of t1', yO, zt (by show 4 ≤ _; decide), fun sp0 hsp0 => ?_⟩;refine zc (upd _ sp0 _) rfl hsp0 fun H2 n2 x2 => ?_
  have s2 := n1.trans n2;have st2 : kh th tr H2 (.ref sp0) (.table n) := ⟨sp0, _, thp, trp, ts, rfl, x2, ⟨qp, rfl, n2 _ _ x1⟩, s2 _ _ t3, t4.same s2, t5⟩;have rt2 : Rt th tr n (.table n) 0 := ⟨mn, rfl, Nat.le_refl _, nl, Nat.le_refl _⟩;refine ⟨fun σ H3 => ∃ (rv : V) (r : Qn), σ = [some v, some (.ref tp), some (.int seed), some v, some rv, none, none, none, none, none, none, none, none, none, none, none] ∧ zM H H3 ∧ kh th tr H3 rv r ∧ Rt th tr n r 1, ?_, ?_⟩
  · refine ⟨_, rfl, _, _, rfl, rfl, (by show (0 : Int) < 7; decide), rfl, _, rfl, ?_⟩;refine yu (fun hb => ?_) (fun hb => ?_)
    · refine ⟨_, rfl, _, rfl, _, _, rfl, rfl, ⟨by decide, by decide⟩, th, tr, .table n, _, _, rfl, TT, st2, mn, by have : (zz (.table n)).length ≤ 10 := nl; omega, hrt, fun v' a H' s' st' ma => ?_⟩;refine ⟨v', _, rfl, s2.trans s', st', ⟨ma, mn⟩, rfl, by show (z2E _ _).length ≤ _; rw [z4c]; exact Nat.le_refl _, ?_, by show 1 + 1 ≤ 1 + 2 * 1; decide⟩;have la := z4h TT n mn a ma;simp only [zz]
      (walk_at "sl")
    · exact ⟨_, _, rfl, s2, st2, rt2.ok, rt2.hd, rt2.ln, by have := rt2.li; omega, by have := rt2.dp; omega⟩
  rintro σ H3 ⟨rv, r, rfl, s3, st3, rt3⟩;refine ⟨fun σ H4 => ∃ (rv : V) (r : Qn), σ = [some v, some (.ref tp), some (.int seed), some v, some rv, none, none, none, none, none, none, none, none, none, none, none] ∧ zM H H4 ∧ kh th tr H4 rv r ∧ Rt th tr n r 2, ?_, ?_⟩
  · refine ⟨_, rfl, _, _, rfl, rfl, (by show (0 : Int) < 7; decide), rfl, _, rfl, ?_⟩;refine yu (fun hb => ?_) (fun hb => ?_)
    · refine ⟨_, rfl, th, tr, r, _, _, rfl, st3, by have := rt3.li; omega, fun v' q' H' s' st' hq' => ?_⟩;refine ⟨v', q', rfl, s3.trans s', st', ?_⟩;obtain ⟨m, mm, hq'⟩ := hq';have lm := (kX m mm).1;have li3 := rt3.li;have dp3 := rt3.dp;rcases hq' with rfl | ⟨m', mm', rfl⟩
      · refine ⟨⟨mm, rt3.ok⟩, rt3.hd, ?_, ?_, ?_⟩
        · show ((rowsOf th tr r).take _).length ≤ _
          rw [List.length_take];have := rt3.ln;omega
        · simp only [zz]
          (walk_at "sl")
        · show depth r + 1 ≤ _
          omega
      · have lm' := (kX m' mm').1;refine ⟨⟨mm', mm, rt3.ok⟩, rt3.hd, ?_, ?_, ?_⟩
        · show (((rowsOf th tr r).take _).take _).length ≤ _
          rw [List.length_take, List.length_take];have := rt3.ln;omega
        · simp only [zz]
          (walk_at "sl")
        · show depth r + 1 + 1 ≤ _
          omega
    · exact ⟨_, _, rfl, s3, st3, rt3.ok, rt3.hd, rt3.ln, by have := rt3.li; omega, by have := rt3.dp; omega⟩
  clear st3 rt3;rintro σ H4 ⟨rv, r, rfl, s4, st4, rt4⟩;have li4 := rt4.li;have dp4 := rt4.dp;have ln4 := rt4.ln;have djr : ∀ x ∈ zo th q, x ∉ zo th r := by rw [rt4.hd]; exact dj
  have hst4 := hst.same s4;have llr : (zz r).length ≤ 300 := by omega
  refine ⟨fun σ H5 => ∃ (lv wv : V) (ql qr : Qn), σ = [some v, some (.ref tp), some (.int seed), some lv, some wv, none, none, none, none, none, none, none, none, none, none, none] ∧ H5 = H4 ∧ kh th tr H4 lv ql ∧ kh th tr H4 wv qr ∧ okQ th ql ∧ okQ th qr ∧ (∀ x ∈ zo th ql, x ∉ zo th qr) ∧ (zz ql).length + (zz qr).length ≤ (zz q).length + 300 ∧
    (rowsOf th tr ql).length * (rowsOf th tr qr).length ≤ (rowsOf th tr q).length * (tr n).length ∧ (rowsOf th tr ql).length ≤ 1000 ∧ (rowsOf th tr qr).length ≤ 1000 ∧ (zo th ql).length ≤ 1000 ∧ (zo th qr).length ≤ 1000 ∧ (zo th ql ++ zo th qr = zo th q ++ th n ∨ zo th ql ++ zo th qr = th n ++ zo th q) ∧ max (depth ql) (depth qr) ≤ max (depth q) 5, ?_, ?_⟩
  · refine ⟨_, rfl, _, _, rfl, rfl, ⟨by decide, by decide⟩, _, _, rfl, rfl, (by show (0 : Int) < 2; decide), rfl, _, rfl, ?_⟩;refine yu (fun hb => ?_) (fun hb => ?_)
    · refine ⟨_, rfl, ?_⟩;refine ⟨_, rfl, ?_⟩;refine ⟨_, _, r, q, rfl, rfl, st4, hst4, rt4.ok, hok, fun x hx hy => djr x hy hx, by omega, ?_, by omega, hro, by rw [rt4.hd]; exact hht, hhl, .inr (by rw [rt4.hd]), by omega⟩;rw [Nat.mul_comm];exact Nat.mul_le_mul_left _ ln4
    · exact ⟨_, _, q, r, rfl, rfl, hst4, st4, hok, rt4.ok, djr, by omega, Nat.mul_le_mul_left _ ln4, hro, by omega, hhl, by rw [rt4.hd]; exact hht, .inl (by rw [rt4.hd]), by omega⟩
  rintro σ H5 ⟨lv, wv, ql, qr, rfl, rfl, stl, str, okl, okr, dlr, lil, rol, rl1, rl2, hl1, hl2, hdl, dpl⟩;have nel := jU TT okl;have ner := jU TT okr;have nml := ji TT okl;have nmr := ji TT okr;have rwl := jO TT okl;have rwr := jO TT okr;obtain ⟨p1, qv1, hp1, rp1, rs1, rfl, a1, a2, a3, a4, a5⟩ := stl;obtain ⟨p2, qv2, hp2, rp2, rs2, rfl, b1, b2, b3, b4, b5⟩ := str;have l1 : rs1.length ≤ 1000 := by rw [← a5, List.length_map] at rl1; exact rl1
  have l2 : rs2.length ≤ 1000 := by rw [← b5, List.length_map] at rl2; exact rl2
  have hlr1 : (refs rs1).length = rs1.length := List.length_map _;have hlr2 : (refs rs2).length = rs2.length := List.length_map _;have w1 : ∀ r ∈ rs1, r.2.length = (zo th ql).length := fun r m => rwl r.2 (by rw [← a5]; exact List.mem_map.mpr ⟨_, m, rfl⟩)
  have w2 : ∀ r ∈ rs2, r.2.length = (zo th qr).length := fun r m => rwr r.2 (by rw [← b5]; exact List.mem_map.mpr ⟨_, m, rfl⟩)
  refine ⟨_, rfl, p1, _, _, _, rfl, rfl, SqT.of a1, yO, _, rfl, p2, _, _, _, rfl, rfl, SqT.of b1, yO, _, _, _, _, rfl, rfl, a3, b3, zt (by rw [List.length_map, List.length_map]; omega), fun hp hhp => ?_⟩;rw [← List.map_append];refine zc (upd _ hp _) rfl hhp fun H6 n6 x6 => ?_
  refine ⟨zt (by show 0 ≤ _; decide), fun wp hwp => ?_⟩;refine zc (upd _ wp _) rfl hwp fun H7 n7 x7 => ?_
  have n57 := n6.trans n7;have f5 : H5 wp = none := n6.free hwp;refine ⟨_, rfl, p1, _, _, _, rfl, rfl, SqT.of (n57 _ _ a1), z0I, rp1, rfl, ⟨_, SqL.of (n57 _ _ a4.1)⟩, z1f (K := K) (a := rp1) (xs := refs rs1) (fun i σ H' => ∃ (ds : List (Addr × List Int)) (o7 o8 : Option V), σ = [some v, some (.ref tp), some (.int seed), some (.ref p1), some (.ref p2), some (.ref hp), some (.ref wp), o7, o8, none, none, none, none, none, none, none] ∧ zM H6 H' ∧ jg H' wp ds ∧
    ds.map (·.2) = pairs ((rs1.map (·.2)).take i) (rs2.map (·.2)) ∧ ds.length ≤ i * 1000) ⟨[], none, none, rfl, n7, kH x7, rfl, Nat.le_refl _⟩ (fun i σ H' _ ⟨_, _, _, _, sm, _⟩ => SqL.of (sm _ _ (n6 _ _ a4.1))) ?_ ?_⟩
  · rintro i x σ H8 hi ⟨ds, o7, o8, rfl, s8, hd, ed, ld⟩;have hir : i < rs1.length := by
      have := (List.getElem?_eq_some_iff.mp hi).1
      rwa [hlr1] at this
    rw [z0g hir] at hi;cases hi;have n58 := n6.trans s8;refine ⟨_, rfl, p2, _, _, _, rfl, rfl, SqT.of (n58 _ _ b1), z0I, rp2, rfl, ⟨_, SqL.of (n58 _ _ b4.1)⟩, z1f (K := K) (a := rp2) (xs := refs rs2) (fun j σ H' => ∃ (ds : List (Addr × List Int)) (o8 : Option V), σ = [some v, some (.ref tp), some (.int seed), some (.ref p1), some (.ref p2), some (.ref hp), some (.ref wp), some (.ref rs1[i].1), o8, none, none, none, none, none, none, none] ∧ zM H6 H' ∧ jg H' wp ds ∧
      ds.map (·.2) = pairs ((rs1.map (·.2)).take i) (rs2.map (·.2)) ++ ((rs2.map (·.2)).take j).map (fun o => rs1[i].2 ++ o) ∧ ds.length ≤ i * 1000 + j) ⟨ds, o8, rfl, s8, hd, by rw [ed]; simp, by omega⟩ (fun j σ H' _ ⟨_, _, _, sm, _⟩ => SqL.of (sm _ _ (n6 _ _ b4.1))) ?_ ?_⟩
    · rintro j y σ H9 hj ⟨ds, o8, rfl, s9, hd, ed, ld⟩;have hjo : j < rs2.length := by
        have := (List.getElem?_eq_some_iff.mp hj).1
        rwa [hlr2] at this
      rw [z0g hjo] at hj;cases hj;have n59 := n6.trans s9;have hR := n59 _ _ (a4.2 _ (List.getElem_mem hir)).2;have hO := n59 _ _ (b4.2 _ (List.getElem_mem hjo)).2;have wl1 := w1 _ (List.getElem_mem hir);have wl2 := w2 _ (List.getElem_mem hjo);refine ⟨_, rfl, .inl ⟨rfl, _, SqL.of hd.1⟩, _, rfl, _, rfl, _, _, _, _, rfl, rfl, hR, hO, zt (by rw [List.length_map, List.length_map]; omega), fun q1 hq1 => ?_⟩;have nn := jB hq1 (.lst (rs1[i].2.map V.int ++ rs2[j].2.map V.int));have hd1 := hd.same nn;refine ⟨wp, _, _, rfl, rfl, hd1.1, jj (by rw [List.length_map]; omega), ?_⟩;have nq : q1 ≠ wp := (zy hd.1 hq1).symm;refine ⟨ds ++ [(q1, rs1[i].2 ++ rs2[j].2)], _, rfl, (s9.trans nn).put hwp, hd1.push nq (by rw [zU, List.map_append]), ?_, by rw [List.length_append, List.length_singleton]; omega⟩;rw [List.map_append, ed, List.take_add_one, z39 hjo, List.map_append, List.append_assoc]
      rfl
    · rintro σ H9 ⟨ds, o8, rfl, s9, hd, ed, ld⟩;refine ⟨ds, _, _, rfl, s9, hd, ?_, by rw [hlr2] at ld; omega⟩;rw [ed, z6e (z39 hir), hlr2, show (rs2.map (·.2)).take rs2.length = rs2.map (·.2) from List.take_of_length_le (by rw [List.length_map]; exact Nat.le_refl _)]
  rintro σ H8 ⟨ds, o7, o8, rfl, s8, hd, ed, ld⟩;rw [hlr1, show (rs1.map (·.2)).take rs1.length = rs1.map (·.2) from List.take_of_length_le (by rw [List.length_map]; exact Nat.le_refl _), a5, b5] at ed;have n58 := n6.trans s8;have s58 := s4.trans n58;have x8 := s8 _ _ x6;have a8 := n58 _ _ a1;have b8 := n58 _ _ b1;have hlen1 : (0 : Int) < ((((zo th ql).map V.str).length : Nat) : Int) := by
    have := List.length_pos_iff.mpr nel.1;rw [List.length_map]; omega
  have hlen2 : (0 : Int) < ((((zo th qr).map V.str).length : Nat) : Int) := by
    have := List.length_pos_iff.mpr ner.1;rw [List.length_map]; omega
  obtain ⟨a, ma, ea⟩ := z0J (i := seed / 8) nel.1;obtain ⟨b, mb, eb⟩ := z0J (i := seed / 2) ner.1;have la := nml a ma;have lb := nmr b mb;refine ⟨_, rfl, p1, _, _, _, rfl, rfl, SqT.of a8, yO, _, rfl, _, _, rfl, rfl, ⟨by decide, by decide⟩, _, rfl, p1, _, _, _, rfl, rfl, SqT.of a8, yO, hp1, _, rfl, .inl (SqL.of (n58 _ _ a3)), _, _, rfl, rfl, hlen1, hp1, _, _, _, rfl, rfl, SqL.of (n58 _ _ a3), ea, ?_⟩;refine ⟨_, rfl, p2, _, _, _, rfl, rfl, SqT.of b8, yO, _, rfl, _, _, rfl, rfl, ⟨by decide, by decide⟩, _, rfl, p2, _, _, _, rfl, rfl, SqT.of b8, yO, hp2, _, rfl, .inl (SqL.of (n58 _ _ b3)), _, _, rfl, rfl, hlen2, hp2, _, _, _, rfl, rfl, SqL.of (n58 _ _ b3), eb, ?_⟩;refine ⟨_, rfl, p1, _, _, _, rfl, rfl, SqT.of a8, yE, _, _, rfl, rfl, by (walk_at "sl"), _, _, rfl, rfl, by (walk_at "sl"), _, rfl, p2, _, _, _, rfl, rfl, SqT.of b8, yE, _, _, rfl, rfl, by (walk_at "sl"), _, _, rfl, rfl, by (walk_at "sl"), ?_⟩;refine ⟨_, rfl, p1, _, _, _, rfl, rfl, SqT.of a8, yc, _, rfl, p2, _, _, _, rfl, rfl, SqT.of b8, yc, zt (by show 3 ≤ _; decide), fun pp hpp => ?_⟩;refine zc (upd _ pp _) rfl hpp fun H9 n9 x9 => ?_
  have n59 := n58.trans n9;have qa9 : QAt H9 (.pair ql qr) (.ref pp) := ⟨pp, qv1, qv2, rfl, x9, a2.same n59, b2.same n59⟩;have hd9 := hd.same n9;have lnp : (zz (.pair ql qr)).length ≤ (zz q).length + 310 := by simp only [zz]; (walk_at "sl")
  have edp : ds.map (·.2) = rowsOf th tr (.pair ql qr) := ed;have lds : (rowsOf th tr (.pair ql qr)).length ≤ (rowsOf th tr q).length * (tr n).length := by show (pairs _ _).length ≤ _; rw [pairs_len]; exact rol
  have okp : okQ th (.pair ql qr) := ⟨dlr, okl, okr⟩;have dpp : depth (.pair ql qr) ≤ max (depth q) 5 + 1 := by show max _ _ + 1 ≤ _; omega
  have unp : Un2 th tr q n (.pair ql qr) := ⟨okp, hdl, lds, by omega, by omega, fun _ => nofun⟩;have wds : ∀ r ∈ ds, r.2.length = (zo th ql ++ zo th qr).length := fun r m => jO TT okp r.2 (by rw [← edp]; exact List.mem_map.mpr ⟨_, m, rfl⟩)
  have ldn : ds.length ≤ 1000000 := by omega
  have hld : (refs ds).length = ds.length := List.length_map _;have mah : a ∈ zo th ql ++ zo th qr := List.mem_append_left _ ma;have mbh : b ∈ zo th ql ++ zo th qr := List.mem_append_right _ mb;have s59 := s4.trans n59;have asPair : ∀ (σ : St) {H10 : Hp}, zM H9 H10 → ∀ sp, H10 sp = none → Q (.ref sp) (upd H10 sp (.tup [.ref pp, .str (zz (.pair ql qr)), .ref hp, .ref wp])) := fun σ H10 s10 sp hsp => by
    have n11 := jB hsp (.tup [.ref pp, .str (zz (.pair ql qr)), .ref hp, .ref wp]);have s911 := s10.trans n11;exact fin _ (.pair ql qr) _ (s59.trans s911) ⟨sp, _, hp, wp, ds, rfl, zU, qa9.same s911, s911 _ _ (n9 _ _ x8), hd9.same s911, edp⟩ unp
  refine ⟨_, rfl, _, _, rfl, rfl, (by show (0 : Int) < 4; decide), rfl, _, rfl, ?_⟩;refine yu (fun hb => ?_) (fun hb => ?_)
  · exact ⟨_, rfl, _, rfl, _, rfl, _, rfl, zt (by show 4 ≤ _; decide), fun sp hsp => asPair [] (zM.refl _) sp hsp⟩
  have ia := kv mah;have ib := kv mbh;have x9h := n9 _ _ x8;refine ⟨_, rfl, .inl ⟨rfl, _, SqL.of x9h⟩, _, rfl, hp, _, _, (zo th ql ++ zo th qr).idxOf a, rfl, rfl, SqL.of x9h, rfl, yX _, ia.1, ia.2, ?_⟩;refine ⟨_, rfl, .inl ⟨rfl, _, SqL.of x9h⟩, _, rfl, hp, _, _, (zo th ql ++ zo th qr).idxOf b, rfl, rfl, SqL.of x9h, rfl, yX _, ib.1, ib.2, ?_⟩;refine ⟨_, rfl, wp, rfl, ⟨_, SqL.of hd9.1⟩, ?_⟩;refine z1p (xs := refs ds) (fun i ys H' => H' = H9 ∧ ys = refs ((ds.take i).filter fun r => decide (r.2.getD ((zo th ql ++ zo th qr).idxOf a) 0 = r.2.getD ((zo th ql ++ zo th qr).idxOf b) 0))) ⟨rfl, rfl⟩ ?_ ?_ ?_
  · rintro i ys H' hi ⟨rfl, rfl⟩;refine ⟨SqL.of hd9.1, jj ?_⟩;have := List.length_filter_le (fun r : Addr × List Int => decide (r.2.getD ((zo th ql ++ zo th qr).idxOf a) 0 = r.2.getD ((zo th ql ++ zo th qr).idxOf b) 0)) (ds.take i);rw [List.length_map];rw [List.length_take] at this;omega
  · rintro i x ys H' hi ⟨rfl, rfl⟩;have hir : i < ds.length := by
      have := (List.getElem?_eq_some_iff.mp hi).1
      rwa [hld] at this
    rw [z0g hir] at hi;cases hi;have hrow := (hd9.2 _ (List.getElem_mem hir)).2;have wl := wds _ (List.getElem_mem hir);have ft := z0Y (fun r : Addr × List Int => decide (r.2.getD ((zo th ql ++ zo th qr).idxOf a) 0 = r.2.getD ((zo th ql ++ zo th qr).idxOf b) 0)) ds (List.getElem?_eq_getElem hir);refine ⟨_, rfl, _, rfl, ds[i].1, _, _, _, rfl, rfl, SqL.of hrow, jr (int_at (z6Q mah wl)), _, rfl, _, rfl, ds[i].1, _, _, _, rfl, rfl, SqL.of hrow, jr (int_at (z6Q mbh wl)), rfl, _, rfl, ?_⟩;rw [z0U];refine yu (fun hc => ?_) (fun hc => ?_)
    · refine ⟨_, rfl, rfl, ?_⟩;rw [ft, if_pos hc];simp [refs]
    · refine ⟨rfl, ?_⟩;rw [ft, if_neg hc, List.append_nil]
  rintro ys H' ⟨rfl, rfl⟩ np hnp;rw [hld, List.take_length];refine zc (upd _ np _) rfl hnp fun H10 n10 x10 => ?_
  have rc := kZ hnp n10 x10 fun r m => (hd9.2 r (List.mem_filter.mp m).1).2
  have fe : (ds.filter fun r => decide (r.2.getD ((zo th ql ++ zo th qr).idxOf a) 0 = r.2.getD ((zo th ql ++ zo th qr).idxOf b) 0)).map (·.2) = rowsOf th tr (.join a b ql qr) := by
    show _ = List.filter _ (pairs _ _)
    rw [← ed, List.filter_map]
    rfl
  have lnf : (rowsOf th tr (.join a b ql qr)).length ≤ (rowsOf th tr q).length * (tr n).length := Nat.le_trans (List.length_filter_le _ _) lds;generalize (ds.filter fun r => decide (r.2.getD ((zo th ql ++ zo th qr).idxOf a) 0 = r.2.getD ((zo th ql ++ zo th qr).idxOf b) 0)) = fs at x10 rc fe;refine ⟨_, rfl, zt (by show 0 ≤ _; decide), fun ep hep => ?_⟩;refine zc (upd _ ep _) rfl hep fun H11 n11 x11 => ?_
  refine ⟨np, ep, _, rfl, rfl, SqL.of (n11 _ _ x10), SqL.of x11, _, rfl, _, ⟨_, rfl, _, _, rfl, rfl, (by show (0 : Int) < 5; decide), _, _, rfl, rfl, _, rfl, rfl, rfl⟩, ?_⟩;have s911 := n10.trans n11;refine yu (fun hb2 => ?_) (fun hb2 => ?_)
  · exact ⟨_, rfl, _, rfl, _, rfl, _, rfl, zt (by show 4 ≤ _; decide), fun sp hsp => asPair [] s911 sp hsp⟩
  refine ⟨_, rfl, ?_⟩;have a11 := s911 _ _ (n9 _ _ a8);have b11 := s911 _ _ (n9 _ _ b8);have n511 := n59.trans s911;refine ⟨fun σ H12 => ∃ (qv : V) (q' : Qn), σ = [some v, some (.ref tp), some (.int seed), some (.ref p1), some (.ref p2), some (.ref hp), some (.ref np), o7, o8, some (.str a), some (.str b), some (.str (zz q')), some qv, some (.int (((zo th ql ++ zo th qr).idxOf a : Nat) : Int)), some (.int (((zo th ql ++ zo th qr).idxOf b : Nat) : Int)), some (.ref np)] ∧ zM H11 H12 ∧ QAt H12 q' qv ∧ zo th q' = zo th ql ++ zo th qr ∧ rowsOf th tr q' = rowsOf th tr (.join a b ql qr) ∧ Un2 th tr q n q', ?_, ?_⟩
  · refine ⟨_, rfl, _, _, rfl, rfl, (by show (0 : Int) < 4; decide), rfl, _, rfl, ?_⟩;refine yu (fun hc => ?_) (fun hc => ?_)
    · refine ⟨_, rfl, _, _, rfl, rfl, by (walk_at "sl"), _, _, rfl, rfl, by (walk_at "sl"), _, rfl, _, _, rfl, rfl, by (walk_at "sl"), _, _, rfl, rfl, by (walk_at "sl"), _, rfl, p1, _, _, _, rfl, rfl, SqT.of a11, yE, _, _, rfl, rfl, by (walk_at "sl"), _, _, rfl, rfl, by (walk_at "sl"), _, rfl, p2, _, _, _, rfl, rfl, SqT.of b11, yE, _, _, rfl, rfl, by (walk_at "sl"), _, _, rfl, rfl, by (walk_at "sl"), ?_⟩;refine ⟨_, rfl, _, rfl, _, rfl, p1, _, _, _, rfl, rfl, SqT.of a11, yc, _, rfl, p2, _, _, _, rfl, rfl, SqT.of b11, yc, zt (by show 5 ≤ _; decide), fun jp hjp => ?_⟩;refine zc (upd _ jp _) rfl hjp fun H12 n12 x12 => ?_
      have n512 := n511.trans n12;refine ⟨_, .join a b ql qr, rfl, n12, ⟨jp, qv1, qv2, rfl, x12, a2.same n512, b2.same n512⟩, rfl, rfl, ⟨ma, mb, dlr, okl, okr⟩, hdl, lnf, ?_, ?_, fun _ => nofun⟩
      · simp only [zz]; (walk_at "sl")
      · show max _ _ + 1 ≤ _; omega
    · refine ⟨_, rfl, _, _, rfl, rfl, (by show (0 : Int) < 4; decide), rfl, _, rfl, ?_⟩;have evs : ∀ {x y : Str} (hxy : (x = b ∧ y = a) ∨ (x = a ∧ y = b)), rowsOf th tr (.pick (.same (.nm x) (.nm y)) (.pair ql qr)) = rowsOf th tr (.join a b ql qr) := fun {x y} hxy => by
        show List.filter _ (pairs _ _) = List.filter _ (pairs _ _)
        refine List.filter_congr fun z _ => ?_
        rcases hxy with ⟨rfl, rfl⟩ | ⟨rfl, rfl⟩
        · show decide (z.getD ((zo th ql ++ zo th qr).idxOf _) 0 = z.getD ((zo th ql ++ zo th qr).idxOf _) 0) = _
          exact decide_eq_decide.mpr eq_comm
        · rfl
      have mk : ∀ {x y : Str} (hxy : (x = b ∧ y = a) ∨ (x = a ∧ y = b)), Un2 th tr q n (.pick (.same (.nm x) (.nm y)) (.pair ql qr)) := fun {x y} hxy => by
        have mx : x ∈ zo th ql ++ zo th qr := by rcases hxy with ⟨rfl, rfl⟩ | ⟨rfl, rfl⟩ <;> assumption
        have my : y ∈ zo th ql ++ zo th qr := by rcases hxy with ⟨rfl, rfl⟩ | ⟨rfl, rfl⟩ <;> assumption
        have lx : x.length ≤ 10 := by rcases hxy with ⟨rfl, rfl⟩ | ⟨rfl, rfl⟩ <;> assumption
        have ly : y.length ≤ 10 := by rcases hxy with ⟨rfl, rfl⟩ | ⟨rfl, rfl⟩ <;> assumption
        refine ⟨⟨⟨mx, my⟩, by simp [Cond.size], okp⟩, hdl, by rw [evs hxy]; exact lnf, ?_, ?_, fun _ => nofun⟩
        · simp only [zz, jH, ends, Side.txt]; simp only [zz] at lnp; (walk_at "sl")
        · show depth (.pair ql qr) + 1 ≤ _; omega
      have line : ∀ x y : Str, ("(pick (same " ++ x ++ " " ++ y ++ ") " ++ zz (.pair ql qr) ++ ")" : Str) = zz (.pick (.same (.nm x) (.nm y)) (.pair ql qr)) := fun x y => by
        have e : zz (.pick (.same (.nm x) (.nm y)) (.pair ql qr)) = ("(pick " : Str) ++ ("(" ++ "same" ++ " " ++ (x ++ " " ++ y) ++ ")") ++ " " ++ zz (.pair ql qr) ++ ")" := rfl;rw [e];have e1 : ("(pick (same " : Str) = ("(pick " : Str) ++ ("(" ++ "same" ++ " ") := by decide +kernel
        have e2 : (") " : Str) = (")" : Str) ++ " " := by decide +kernel
        rw [e1, e2];simp only [Str.append_assoc]
      have lx12 : (zz (.pair ql qr)).length ≤ 4000310 := by omega
      refine yu (fun hc2 => ?_) (fun hc2 => ?_)
      · refine ⟨_, rfl, _, _, rfl, rfl, by (walk_at "sl"), _, _, rfl, rfl, by (walk_at "sl"), _, rfl, _, _, rfl, rfl, by (walk_at "sl"), _, _, rfl, rfl, by (walk_at "sl"), _, rfl, _, zz (.pair ql qr), rfl, rfl, by (walk_at "sl"), _, _, rfl, rfl, by (walk_at "sl"), ?_⟩;refine ⟨_, rfl, _, rfl, zt (by show 3 ≤ _; decide), fun cp hcp => ?_⟩;refine zc (upd _ cp _) rfl hcp fun H12 n12 x12 => ?_
        refine ⟨_, rfl, zt (by show 3 ≤ _; decide), fun jp hjp => ?_⟩;refine zc (upd _ jp _) rfl hjp fun H13 n13 x13 => ?_
        refine ⟨_, .pick (.same (.nm b) (.nm a)) (.pair ql qr), by rw [← line]; rfl, n12.trans n13, ⟨jp, _, _, rfl, x13, ⟨cp, rfl, n13 _ _ x12⟩, qa9.same (s911.trans (n12.trans n13))⟩, rfl, evs (.inl ⟨rfl, rfl⟩), mk (.inl ⟨rfl, rfl⟩)⟩
      · refine ⟨_, rfl, _, _, rfl, rfl, by (walk_at "sl"), _, _, rfl, rfl, by (walk_at "sl"), _, rfl, _, _, rfl, rfl, by (walk_at "sl"), _, _, rfl, rfl, by (walk_at "sl"), _, rfl, _, zz (.pair ql qr), rfl, rfl, by (walk_at "sl"), _, _, rfl, rfl, by (walk_at "sl"), ?_⟩;refine ⟨_, rfl, _, rfl, zt (by show 3 ≤ _; decide), fun cp hcp => ?_⟩;refine zc (upd _ cp _) rfl hcp fun H12 n12 x12 => ?_
        refine ⟨_, rfl, zt (by show 3 ≤ _; decide), fun jp hjp => ?_⟩;refine zc (upd _ jp _) rfl hjp fun H13 n13 x13 => ?_
        refine ⟨_, .pick (.same (.nm a) (.nm b)) (.pair ql qr), by rw [← line]; rfl, n12.trans n13, ⟨jp, _, _, rfl, x13, ⟨cp, rfl, n13 _ _ x12⟩, qa9.same (s911.trans (n12.trans n13))⟩, rfl, evs (.inr ⟨rfl, rfl⟩), mk (.inr ⟨rfl, rfl⟩)⟩
  rintro σ H12 ⟨qv, q', rfl, s12, qa12, eh, er, un12⟩;refine ⟨_, rfl, _, rfl, _, rfl, _, rfl, zt (by show 4 ≤ _; decide), fun sp hsp => ?_⟩;refine zc (upd _ sp _) rfl hsp fun H13 n13 x13 => ?_
  have s913 := s911.trans (s12.trans n13);refine fin _ q' _ (s59.trans s913) ⟨sp, qv, hp, np, fs, rfl, x13, qa12.same n13, by rw [eh]; exact s913 _ _ x9h, (rc.same n11).same (s12.trans n13), by rw [fe, er]⟩ un12

def z18 (hs : List Str) (n : Str) : List Str := if n = "tuvtuvtuvw" then z1I else if n = "tuvtuvtuvx" then (["e"] : List Str) else hs
def z2e (r0 r1 r2 r3 : List (List Int)) (n : Str) : List (List Int) := if n = "t" then r0 else if n = "tuvtuvtuvw" then r1 else if n = "tuvtuvtuvx" then r2 else r3
theorem tabs_ok {m : Nat} {r0 r1 r2 r3 : List (List Int)} (m1 : 2 ≤ m) (m2 : m ≤ 12) (l0 : ∀ r ∈ r0, r.length = (letters.take m).length) (l1 : ∀ r ∈ r1, r.length = 2) (l2 : ∀ r ∈ r2, r.length = 1) (l3 : ∀ r ∈ r3, r.length = (letters.take m).length) (c0 : r0.length ≤ 60) (c1 : r1.length ≤ 10) (c2 : r2.length ≤ 10) (c3 : r3.length = 3) :
    TabOk (z18 (letters.take m)) (z2e r0 r1 r2 r3) where
  t := ⟨m, m1, m2, by unfold z18; rw [if_neg (by decide +kernel), if_neg (by decide +kernel)]⟩
  w := by unfold z18; rw [if_pos rfl]
  x := by unfold z18; rw [if_neg (by decide +kernel), if_pos rfl]
  z := by unfold z18; rw [if_neg (by decide +kernel), if_neg (by decide +kernel), if_neg (by decide +kernel), if_neg (by decide +kernel)]
  rl := fun n hn => by
    simp only [tabs, List.mem_cons, List.not_mem_nil, or_false] at hn;rcases hn with rfl | rfl | rfl | rfl
    · unfold z18 z2e; rw [if_pos rfl, if_neg (by decide +kernel), if_neg (by decide +kernel)]; exact l0
    · unfold z18 z2e; rw [if_neg (by decide +kernel), if_pos rfl, if_pos rfl]; exact l1
    · unfold z18 z2e; rw [if_neg (by decide +kernel), if_neg (by decide +kernel), if_pos rfl, if_neg (by decide +kernel), if_pos rfl]; exact l2
    · unfold z18 z2e; rw [if_neg (by decide +kernel), if_neg (by decide +kernel), if_neg (by decide +kernel), if_neg (by decide +kernel), if_neg (by decide +kernel)]; exact l3
  ct := by unfold z2e; rw [if_pos rfl]; exact c0
  cw := by unfold z2e; rw [if_neg (by decide +kernel), if_pos rfl]; exact c1
  cx := by unfold z2e; rw [if_neg (by decide +kernel), if_neg (by decide +kernel), if_pos rfl]; exact c2
  cz := by unfold z2e; rw [if_neg (by decide +kernel), if_neg (by decide +kernel), if_neg (by decide +kernel)]; exact c3
def z3k (th : Str → List Str) (tr : Str → List (List Int)) (H : Hp) (p : Addr) : Prop := ∃ v0 v1 v2 v3, H p = some (.lst [v0, v1, v2, v3]) ∧ TabAt th tr H v0 "t" ∧ TabAt th tr H v1 "tuvtuvtuvw" ∧ TabAt th tr H v2 "tuvtuvtuvx" ∧ TabAt th tr H v3 "tuvz"
theorem z3k.same {th : Str → List Str} {tr : Str → List (List Int)} {H H' : Hp} {p : Addr} (h : z3k th tr H p) (e : zM H H') : z3k th tr H' p := by
  obtain ⟨v0, v1, v2, v3, h0, a, b, c, d⟩ := h;exact ⟨v0, v1, v2, v3, e _ _ h0, a.same e, b.same e, c.same e, d.same e⟩
def z2i (K : PySem.W.Frag) : Sp := fun vs H Q _ => ∃ (cp : Addr) (ns : List Int) (more : Int), vs = [.ref cp, .int more] ∧ SqL K H cp (ns.map V.int) ∧ ns.length ≤ 18 ∧ 0 ≤ more ∧ more ≤ 48 ∧
  ∀ (p : Addr) (th : Str → List Str) (tr : Str → List (List Int)) (H' : Hp), zM H H' → TabOk th tr → z3k th tr H' p → Q (.ref p) H'

theorem z69 {t : TT} {σ : St} {H : Hp} {Q : Bool → Hp → Prop} (els : Q false H) (h : Q false H → t σ H Q) : t σ H Q := h els
def twM (t : Nat) : Nat := if t = 0 then 1 else if t = 1 then 2 else 4
structure Gr (th : Str → List Str) (tr : Str → List (List Int)) (i used twice : Nat) (q : Qn) : Prop where
  ok : okQ th q
  rows : (rowsOf th tr q).length ≤ 60
  line : (zz q).length ≤ 2400 * (i + 1) * twM twice
  heads : ∀ x ∈ zo th q, x ∈ z0L i used
  dp : depth q ≤ 5 + 2 * i
  top : ∀ n, q = .table n → n = "t" := by intro n e; cases e
theorem z2B {α : Type} {l : List α} {x : α} {i j : Nat} (h : x ∈ l.take i) (hij : i ≤ j) : x ∈ l.take j := by
  have : l.take i = (l.take j).take i := by rw [List.take_take, Nat.min_eq_left hij]
  rw [this] at h;exact List.mem_of_mem_take h
theorem jC {x : Str} {i j u v : Nat} (h : x ∈ z0L i u) (hij : i ≤ j) (huv : u ≤ v) : x ∈ z0L j v := by
  unfold z0L at h ⊢;simp only [List.mem_append, List.mem_map] at h ⊢;rcases h with (((h | h) | h) | ⟨s, h, e⟩) | ⟨s, h, e⟩
  · exact .inl (.inl (.inl (.inl h)))
  · refine .inl (.inl (.inl (.inr ?_)));split at h
    · rw [if_pos (by omega)]; exact h
    · cases h
  · refine .inl (.inl (.inr ?_));split at h
    · rw [if_pos (by omega)]; exact h
    · cases h
  · exact .inl (.inr ⟨s, z2B h hij, e⟩)
  · exact .inr ⟨s, z2B h hij, e⟩
theorem zbb : ∀ x ∈ z1I, x ∉ z0L 26 1 := by decide +kernel
theorem zat : ∀ x ∈ (["e"] : List Str), x ∉ z0L 26 2 := by decide +kernel
theorem z7M : ∀ i : Fin 26, (("n" : Str) ++ signs.getD i.1 "" : Str) ∉ z0L i.1 3 ∧ (("s" : Str) ++ signs.getD i.1 "" : Str) ∉ z0L i.1 3 := by decide +kernel
theorem z5m : (z0L 26 3).length ≤ 100 := by decide +kernel
theorem wIn : ∀ x ∈ z1I, x ∈ z0L 0 2 := by decide +kernel
theorem eIn : ∀ x ∈ (["e"] : List Str), x ∈ z0L 0 3 := by decide +kernel
theorem lIn : ∀ x ∈ letters, x ∈ z0L 0 1 := by decide +kernel
def z8v : Str := "abcdefghijklmnopqrstuvwxyz"
theorem z9f : ∀ i : Fin 26, (z8v.cps.toList[i.1]?).map (fun c => (⟨#[c]⟩ : Str)) = some (signs.getD i.1 "") := by decide +kernel
theorem z8T : z8v.length ≤ sizeLine := zt (by decide +kernel)
theorem zac {i : Nat} (h : i < 26) : ∃ c, atI z8v.cps.toList (0 + (i : Int)) = some c ∧ (⟨#[c]⟩ : Str) = signs.getD i "" := by
  have := z9f ⟨i, h⟩;cases e : z8v.cps.toList[i]? with
  | none => rw [e] at this; cases this
  | some c =>
    rw [e] at this;refine ⟨c, ?_, Option.some.inj this⟩;rw [Int.zero_add];exact jr e
theorem z2k {i : Nat} (h : i < 26) : signs.getD i "" ∈ signs := by
  rw [List.getD_eq_getElem?_getD, List.getElem?_eq_getElem (by show i < 26; exact h)];exact List.getElem_mem _
theorem z4m {i : Nat} (h : i < 26) : signs.getD i "" ∈ signs.take (i + 1) := by
  have hl : i < signs.length := h;rw [List.getD_eq_getElem?_getD, List.getElem?_eq_getElem hl, List.take_add_one, List.getElem?_eq_getElem hl];exact List.mem_append_right _ (List.mem_singleton.mpr rfl)
section
variable {th : Str → List Str} {tr : Str → List (List Int)} {i used twice : Nat} {q : Qn}
theorem kR (t : Nat) : 1 ≤ twM t ∧ twM t ≤ 4 := by unfold twM; split <;> (try split) <;> omega
theorem kP {a b i m : Nat} (h : a ≤ 2400 * (i + 1) * m) (hm : 1 ≤ m) (hb : b ≤ a + 2400) : b ≤ 2400 * (i + 1 + 1) * m := by
  have : 2400 * (i + 1 + 1) * m = 2400 * (i + 1) * m + 2400 * m := by rw [Nat.mul_add 2400 (i + 1) 1, Nat.add_mul, Nat.mul_one]
  omega
theorem Gr.big (g : Gr th tr i used twice q) (hi : i ≤ 24) : (zz q).length ≤ 240000 := by
  have h := g.line;have m := (kR twice).2;have : 2400 * (i + 1) * twM twice ≤ 2400 * 25 * 4 := Nat.mul_le_mul (Nat.mul_le_mul_left _ (by omega)) m;omega
theorem Gr.wide (T : TabOk th tr) (g : Gr th tr i used twice q) (hi : i ≤ 26) (hu : used ≤ 3) : (zo th q).length ≤ 100 :=
  Nat.le_trans (z1k (jU T g.ok).2 fun x hx => jC (g.heads x hx) hi hu) z5m
theorem Gr.pick (T : TabOk th tr) (g : Gr th tr i used twice q) {c : Cond} (sm : jD (zo th q) c) (sz : c.size ≤ 6) : Gr th tr (i + 1) used twice (.pick c q) where
  ok := ⟨sm, sz, g.ok⟩
  rows := Nat.le_trans (List.length_filter_le _ _) g.rows
  line := kP g.line (kR _).1 (by have := z3a (ji T g.ok) sm sz; omega)
  heads := fun x hx => jC (g.heads x hx) (by omega) (Nat.le_refl _)
  dp := by have := g.dp; show depth q + 1 ≤ _; omega
theorem Gr.cols (T : TabOk th tr) (g : Gr th tr i used twice q) (hi : i ≤ 24) (hu : used ≤ 3) {ns : List Str} (ne : ns ≠ []) (nd : ns.Nodup) (sub : ∀ n ∈ ns, n ∈ zo th q) : Gr th tr (i + 1) used twice (.cols ns q) where
  ok := ⟨ne, nd, sub, g.ok⟩
  rows := by show (List.map _ _).length ≤ _; rw [List.length_map]; exact g.rows
  line := kP g.line (kR _).1 (by
    have jl := z3v fun n hn => ji T g.ok n (sub n hn)
    have wl := g.wide T (by omega) hu;have nl := z1k nd sub;simp only [zz]
    (walk_at "sl"))
  heads := fun x hx => jC (g.heads x (sub x hx)) (by omega) (Nat.le_refl _)
  dp := by have := g.dp; show depth q + 1 ≤ _; omega
theorem Gr.sort (T : TabOk th tr) (g : Gr th tr i used twice q) {n : Str} (m : n ∈ zo th q) : Gr th tr (i + 1) used twice (.sort n q) where
  ok := ⟨m, g.ok⟩
  rows := by show (z2E _ _).length ≤ _; rw [z4c]; exact g.rows
  line := kP g.line (kR _).1 (by
    have := ji T g.ok n m;simp only [zz]
    (walk_at "sl"))
  heads := fun x hx => jC (g.heads x hx) (by omega) (Nat.le_refl _)
  dp := by have := g.dp; show depth q + 1 ≤ _; omega
theorem Gr.first (g : Gr th tr i used twice q) {n : Int} (m : n ∈ kG) : Gr th tr (i + 1) used twice (.first n q) where
  ok := ⟨m, g.ok⟩
  rows := by show (List.take _ _).length ≤ _; rw [List.length_take]; have := g.rows; omega
  line := kP g.line (kR _).1 (by
    have := (kX n m).1;simp only [zz]
    (walk_at "sl"))
  heads := fun x hx => jC (g.heads x hx) (by omega) (Nat.le_refl _)
  dp := by have := g.dp; show depth q + 1 ≤ _; omega
theorem Gr.firsts (g : Gr th tr i used twice q) {n n' : Int} (m : n ∈ kG) (m' : n' ∈ kG) : Gr th tr (i + 1) used twice (.first n' (.first n q)) where
  ok := ⟨m', m, g.ok⟩
  rows := by show (List.take _ (List.take _ _)).length ≤ _; rw [List.length_take, List.length_take]; have := g.rows; omega
  line := kP g.line (kR _).1 (by
    have := (kX n m).1;have := (kX n' m').1;simp only [zz]
    (walk_at "sl"))
  heads := fun x hx => jC (g.heads x hx) (by omega) (Nat.le_refl _)
  dp := by have := g.dp; show depth q + 1 + 1 ≤ _; omega
theorem Gr.group (T : TabOk th tr) (g : Gr th tr i used twice q) (hi : i < 26) (hu : used ≤ 3) {a b : Str} (ma : a ∈ zo th q) (mb : b ∈ zo th q) : Gr th tr (i + 1) used twice (.group a b (("n" : Str) ++ signs.getD i "") (("s" : Str) ++ signs.getD i "") q) where
  ok := by
    have ps := z7M ⟨i, hi⟩;have pa : a ∈ z0L i 3 := jC (g.heads a ma) (Nat.le_refl _) hu;exact ⟨ma, mb, ⟨_, z2k hi, rfl, rfl⟩, fun z => ps.1 (z ▸ pa), fun z => ps.2 (z ▸ pa), g.ok⟩
  rows := by
    show ((z0k _ _).map _).length ≤ _
    rw [List.length_map];exact Nat.le_trans (z46 _) g.rows
  line := kP g.line (kR _).1 (by
    have := ji T g.ok a ma;have := ji T g.ok b mb;have := z28 _ (z2k hi);simp only [zz]
    (walk_at "sl"))
  heads := fun x hx => by
    have hx' : x ∈ [a, (("n" : Str) ++ signs.getD i "" : Str), (("s" : Str) ++ signs.getD i "" : Str)] := hx;simp only [List.mem_cons, List.not_mem_nil, or_false] at hx';rcases hx' with rfl | rfl | rfl
    · exact jC (g.heads _ ma) (by omega) (Nat.le_refl _)
    · unfold z0L;exact List.mem_append_left _ (List.mem_append_right _ (List.mem_map.mpr ⟨_, z4m hi, rfl⟩))
    · unfold z0L;exact List.mem_append_right _ (List.mem_map.mpr ⟨_, z4m hi, rfl⟩)
  dp := by have := g.dp; show depth q + 1 ≤ _; omega
theorem z4o {a b c i m m' : Nat} (h1 : a ≤ 2400 * (i + 1) * m) (hb : b ≤ a + 1000) (hc : c ≤ a + b + 100) (hm : 1 ≤ m) (h2 : m' = 2 * m) : c ≤ 2400 * (i + 1 + 1) * m' := by
  have e : 2400 * (i + 1 + 1) * m' = 2 * (2400 * (i + 1) * m) + 2 * (2400 * m) := by
    rw [h2, Nat.mul_add 2400 (i + 1) 1, Nat.add_mul, Nat.mul_one, Nat.mul_left_comm (2400 * (i + 1)) 2 m, Nat.mul_left_comm 2400 2 m]
  omega
theorem Gr.both (T : TabOk th tr) (g : Gr th tr i used twice q) (ht : twice < 2) {r q' : Qn} (okr : okQ th r) (eh : zo th r = zo th q) (lr : (zz r).length ≤ (zz q).length + 1000) (rr : (rowsOf th tr q).length + (rowsOf th tr r).length ≤ 60) (dr : depth r ≤ depth q + 1) (e : q' = .both q r ∨ q' = .both r q) : Gr th tr (i + 1) used (twice + 1) q' := by
  have hm : twM (twice + 1) = 2 * twM twice := by
    have : twice = 0 ∨ twice = 1 := by omega
    rcases this with rfl | rfl <;> rfl
  have gd := g.dp;rcases e with rfl | rfl
  · exact ⟨⟨eh.symm, g.ok, okr⟩, by show (rowsOf th tr q ++ rowsOf th tr r).length ≤ _; rw [List.length_append]; exact rr, z4o g.line lr (by simp only [zz]; (walk_at "sl")) (kR _).1 hm, fun x hx => jC (g.heads x hx) (by omega) (Nat.le_refl _), by show max _ _ + 1 ≤ _; omega, fun _ => nofun⟩
  · exact ⟨⟨eh, okr, g.ok⟩, by show (rowsOf th tr r ++ rowsOf th tr q).length ≤ _; rw [List.length_append, Nat.add_comm]; exact rr, z4o g.line lr (by simp only [zz]; (walk_at "sl")) (kR _).1 hm, fun x hx => jC (g.heads x (by rw [← eh]; exact hx)) (by omega) (Nat.le_refl _), by show max _ _ + 1 ≤ _; omega, fun _ => nofun⟩
theorem Gr.unite (g : Gr th tr i used twice q) {n : Str} {q' : Qn} (u : Un2 th tr q n q') (hn : ∀ x ∈ th n, x ∈ z0L 0 (used + 1)) (hl : (rowsOf th tr q).length * (tr n).length ≤ 30) : Gr th tr (i + 1) (used + 1) twice q' where
  ok := u.ok
  rows := Nat.le_trans u.ln (by omega)
  line := kP g.line (kR _).1 (by have := u.li; omega)
  heads := fun x hx => by
    have h1 : ∀ x ∈ zo th q, x ∈ z0L (i + 1) (used + 1) := fun x hx => jC (g.heads x hx) (by omega) (by omega)
    have h2 : ∀ x ∈ th n, x ∈ z0L (i + 1) (used + 1) := fun x hx => jC (hn x hx) (by omega) (Nat.le_refl _)
    rcases u.hd with e | e
    · rw [e] at hx;exact (List.mem_append.mp hx).elim (h1 x) (h2 x)
    · rw [e] at hx;exact (List.mem_append.mp hx).elim (h2 x) (h1 x)
  dp := by have := u.dp; have := g.dp; omega
  top := fun m e => absurd e (u.nt m)
end
def z4S (K : PySem.W.Frag) : Sp := fun vs H Q _ => ∃ (cp tp : Addr) (ns : List Int) (th : Str → List Str) (tr : Str → List (List Int)), vs = [.ref cp, .ref tp] ∧ SqL K H cp (ns.map V.int) ∧ ns.length ≤ 24 ∧ TabOk th tr ∧ z3k th tr H tp ∧
  ∀ (v' : V) (q : Qn) (used twice : Nat) (H' : Hp), zM H H' → kh th tr H' v' q → Gr th tr ns.length used twice q → used ≤ 3 → twice ≤ 2 → Q v' H'
theorem zY : FnScope ["_law_cells", "_law_tables", "_law_state", "_law_used", "_law_twice", "_law_k", "_law_seed", "_law_turn"] ["_law_cells", "_law_tables"] (zv yZ) := ⟨rfl, rfl, rfl, by decide +kernel, rfl, by decide +kernel, by decide +kernel⟩
set_option maxHeartbeats 1600000 in
theorem z3V (F : Fun K "_law_grown" "_law_grown" yZ f fd) (T : Txt K mg) (C_law_picked : Kn P w K mg base 8 "_law_picked" ["_law_state", "_law_seed"] (z1V K)) (C_law_columns : Kn P w K mg base 1 "_law_columns" ["_law_state", "_law_seed"] (z2w K)) (C_law_united : Kn P w K mg base 2 "_law_united" ["_law_state", "_law_table", "_law_seed"] (z3p K))
    (C_law_beside : Kn P w K mg base 1 "_law_beside" ["_law_state", "_law_table", "_law_seed"] (z3E K)) (C_law_doubled : Kn P w K mg base 9 "_law_doubled" ["_law_state", "_law_seed"] (z2g K)) (C_law_headed : Kn P w K mg base 1 "_law_headed" ["_law_state", "_law_seed"] (z1N K)) (C_law_counted : Kn P w K mg base 1 "_law_counted" ["_law_state", "_law_seed", "_law_sign"] (z2m K)) (C_law_sorted : Kn P w K mg base 1 "_law_sorted" ["_law_state", "_law_seed"] (z1T K)) :
    FnOk P w K mg base CX0 10 f fd ["_law_cells", "_law_tables"] (z4S K) := by
  refine F.ok zY (fun vs H Q E h => ?_) (fun cdv A outer s H vs Q E hr h => ?_)
  · obtain ⟨cp, tp, ns, th, tr, rfl, _⟩ := h
    rfl
  obtain ⟨cp, tp, ns, th, tr, rfl, hS, hn, TT, h4, fin⟩ := h;have hu := z6Z hr;have hln : (ns.map V.int).length = ns.length := List.length_map _;refine ⟨_, (zj (zu (i := 2) zY.nd rfl (Or.inl rfl) (zJ (zS (zJ (zn zm (zn zm zi))) (zn zm (zF (zw zx (zw zT (pv 1) zd (fun _ _ => rfl)) zd (fun _ _ => rfl)) (zF (zw zx (zw zT (pv 1) zd (fun _ _ => rfl)) zd (fun _ _ => rfl)) zi))))))
    (zj (zu (i := 3) zY.nd rfl (Or.inl rfl) zd)
    (zj (zu (i := 4) zY.nd rfl (Or.inl rfl) zd)
    (zj (z02 PassesOwn.never rfl (kd rfl T.range (ya (zI zK rfl T.len PySem.boot_len (zl (pv 0) zi)) zi)) (yQ (i := 5) zY.nd rfl (Or.inl rfl))
      (zj (zu (i := 6) zY.nd rfl (Or.inl rfl) (zr yW (zr yk (zw zT (pv 0) (pv 5) (fun _ _ => rfl)) zd) (pv 5)))
      (zj (zu (i := 7) zY.nd rfl (Or.inl rfl) (zr j8 (zr yW (zw zT (pv 0) (pv 5) (fun _ _ => rfl)) (zr z1H zd (pv 5))) zd))
      (zq (jc (zG z2F (pv 7) zd (zN _))
        (zq (zu (i := 2) zY.nd rfl (Or.inl rfl) (zX C_law_picked hr.m rfl (zl (pv 2) (zl (pv 6) zi)))))
        (zq (jc (zG jm (pv 7) zd (zN _))
          (zq (zu (i := 2) zY.nd rfl (Or.inl rfl) (zX C_law_columns hr.m rfl (zl (pv 2) (zl (pv 6) zi)))))
          (zq (jc (PW.pt (z3G (zG jm (pv 7) zd (zN _)) (z3G (zG z2F (pv 3) zd (zN _)) (z4Y (zG zah (zr z1H (zI zK rfl T.len PySem.boot_len (zF (zw zx (pv 2) zd (fun _ _ => rfl)) zi)) (zI zK rfl T.len PySem.boot_len (zF (zw zx (zw zT (pv 1) (pv 3) (fun _ _ => rfl)) zd (fun _ _ => rfl)) zi))) zd (zN _))))))
            (zj (zu (i := 2) zY.nd rfl (Or.inl rfl) (zX C_law_united hr.m rfl (zl (pv 2) (zF (zw zT (pv 1) (pv 3) (fun _ _ => rfl)) (zl (pv 6) zi)))))
            (zq (zu (i := 3) zY.nd rfl (Or.inl rfl) (zr yW (pv 3) zd))))
            (zq (jc (PW.pt (z3G (zG jm (pv 7) zd (zN _)) (z3G (zG z2F (pv 4) zd (zN _)) (z4Y (zG zah (zI zK rfl T.len PySem.boot_len (zF (zw zx (pv 2) zd (fun _ _ => rfl)) zi)) (zr z14 zd (zr z1H zd (pv 4))) (zN _))))))
              (zj (jc (z1O (zG (z7R hu) (zw zx (pv 2) zd (fun _ _ => rfl)) (zw zx (zw zT (pv 1) zd (fun _ _ => rfl)) zd (fun _ _ => rfl)) (zN _)) (zG jm (zr j8 (pv 6) zd) zd (zN _)))
                (zq (zu (i := 2) zY.nd rfl (Or.inl rfl) (zX C_law_beside hr.m rfl (zl (pv 2) (zF (zw zT (pv 1) zd (fun _ _ => rfl)) (zl (pv 6) zi))))))
                (zq (zu (i := 2) zY.nd rfl (Or.inl rfl) (zX C_law_doubled hr.m rfl (zl (pv 2) (zl (pv 6) zi))))))
              (zq (zu (i := 4) zY.nd rfl (Or.inl rfl) (zr yW (pv 4) zd))))
              (zq (jc (zG jm (pv 7) zd (zN _))
                (zq (zu (i := 2) zY.nd rfl (Or.inl rfl) (zX C_law_headed hr.m rfl (zl (pv 2) (zl (pv 6) zi)))))
                (zq (jc (zG jm (pv 7) zd (zN _))
                  (zq (zu (i := 2) zY.nd rfl (Or.inl rfl) (zX C_law_counted hr.m rfl (zl (pv 2) (zl (pv 6) (zF (zw z8N zm (pv 5) (fun _ _ => rfl)) zi))))))
                  (zq (zu (i := 2) zY.nd rfl (Or.inl rfl) (zX C_law_sorted hr.m rfl (zl (pv 2) (zl (pv 6) zi))))))))))))))))))))
    (zq (zR (pv 2))))))), ?_⟩
  obtain ⟨v0, v1, v2, v3, f0, t0, t1, t2, t3⟩ := id h4;obtain ⟨p0, hp0, rp0, rs0, rfl, a1, a3, a4, a5⟩ := t0;refine ⟨zt (by show 2 ≤ _; decide), fun qp hqp => ?_⟩;refine zc (upd _ qp _) rfl hqp fun H1 n1 x1 => ?_
  refine ⟨_, rfl, tp, _, _, _, rfl, rfl, SqL.of (n1 _ _ f0), yc, p0, _, _, _, rfl, rfl, SqT.of (n1 _ _ a1), yE, _, rfl, tp, _, _, _, rfl, rfl, SqL.of (n1 _ _ f0), yc, p0, _, _, _, rfl, rfl, SqT.of (n1 _ _ a1), yO, zt (by show 4 ≤ _; decide), fun sp hsp => ?_⟩;refine zc (upd _ sp _) rfl hsp fun H2 n2 x2 => ?_
  have s2 := n1.trans n2;have st2 : kh th tr H2 (.ref sp) (.table "t") := ⟨sp, _, hp0, rp0, rs0, rfl, x2, ⟨qp, rfl, n2 _ _ x1⟩, s2 _ _ a3, a4.same s2, a5⟩;have tt : ("t" : Str) ∈ tabs := List.mem_cons_self;have g2 : Gr th tr 0 1 0 (.table "t") := by
    refine ⟨tt, TT.ct, ?_, fun x hx => ?_, by decide, fun n e => by cases e; rfl⟩
    · have : (zz (.table "t")).length ≤ 10 := by decide +kernel
      have : twM 0 = 1 := rfl;omega
    · obtain ⟨m, _, _, e⟩ := TT.t;have hx' : x ∈ th "t" := hx;rw [e] at hx';exact lIn x (List.mem_of_mem_take hx')
  refine ⟨_, rfl, cp, _, rfl, .inl (s2.seq hS), _, rfl, by omega, by rw [hln]; omega, z0F (lo := 0) (n := (ns.map V.int).length) (fun i σ H' => ∃ (v : V) (q : Qn) (used twice : Nat) (o5 o6 o7 : Option V), σ = [some (.ref cp), some (.ref tp), some v, some (.int (used : Int)), some (.int (twice : Int)), o5, o6, o7] ∧ zM H H' ∧ kh th tr H' v q ∧ Gr th tr i used twice q ∧ 1 ≤ used ∧ used ≤ 3 ∧ twice ≤ 2)
    ⟨_, _, 1, 0, none, none, none, rfl, s2, st2, g2, by decide, by decide, by decide⟩ ?_ ?_⟩
  · rintro i σ H3 hi ⟨v, q, used, twice, o5, o6, o7, rfl, s3, st3, g3, u1, u3, w2⟩;rw [hln] at hi;have hi24 : i ≤ 24 := by omega
    have hat : atI (ns.map V.int) (0 + (i : Int)) = some (.int (ns.getD i 0)) := by
      rw [Int.zero_add]; exact jr (int_at hi)
    generalize ns.getD i 0 = c at hat
    have hS3 := s3.seq hS;have big := g3.big hi24;have rows := g3.rows;have wide := g3.wide TT (by omega) u3;refine ⟨_, rfl, _, rfl, cp, _, _, _, rfl, rfl, hS3, hat, _, _, rfl, rfl, ⟨by decide, by decide⟩, _, rfl, _, _, rfl, rfl, ?_⟩;refine ⟨_, rfl, _, rfl, cp, _, _, _, rfl, rfl, hS3, hat, _, rfl, _, _, rfl, rfl, .inl ⟨by decide, by decide⟩, _, _, rfl, rfl, _, _, rfl, rfl, (by show (0 : Int) < 9; decide), ?_⟩;refine ⟨_, rfl, _, _, rfl, rfl, _, rfl, ?_⟩;refine yu (fun b0 => ?_) (fun b0 => ?_)
    · refine ⟨_, rfl, _, rfl, th, tr, q, v, _, rfl, TT, st3, g3.ok, by omega, by omega, fun v' c' H' s' st' sm sz => ?_⟩;exact ⟨v', _, used, twice, _, _, _, rfl, s3.trans s', st', g3.pick TT sm sz, u1, u3, w2⟩
    refine ⟨_, rfl, rfl, _, rfl, ?_⟩;refine yu (fun b1 => ?_) (fun b1 => ?_)
    · refine ⟨_, rfl, _, rfl, th, tr, q, v, _, rfl, TT, st3, g3.ok, by omega, by omega, by omega, fun v' ns' H' s' st' ne nd sub => ?_⟩;exact ⟨v', _, used, twice, _, _, _, rfl, s3.trans s', st', g3.cols TT hi24 u3 ne nd sub, u1, u3, w2⟩
    refine z69 (zas ?els) (fun els => ?main)
    case main =>
      refine ⟨_, rfl, rfl, _, rfl, ?_⟩;refine yu (fun b2 => ?_) (fun b2 => els);refine ⟨_, rfl, _, _, rfl, rfl, _, rfl, ?_⟩;refine yu (fun b3 => ?_) (fun b3 => els);have b3' : (used : Int) < 3 := of_decide_eq_true b3;obtain ⟨p, qv, hp, rp, rs, rfl, h1, h2, h3, h4', h5⟩ := id st3;have lrs : rs.length ≤ 60 := by rw [← h5, List.length_map] at rows; exact rows
      obtain ⟨tv, n, tat, ht, mn, hdj, hin, hrn⟩ : ∃ (tv : V) (n : Str), atI [V.ref p0, v1, v2, v3] (used : Int) = some tv ∧ TabAt th tr H3 tv n ∧ n ∈ tabs ∧ (∀ x ∈ zo th q, x ∉ th n) ∧ (∀ x ∈ th n, x ∈ z0L 0 (used + 1)) ∧ (tr n).length ≤ 10 := by
        have : used = 1 ∨ used = 2 := by omega
        rcases this with rfl | rfl
        · refine ⟨v1, _, yE, t1.same s3, by simp [tabs], fun x hx hy => ?_, ?_, TT.cw⟩
          · rw [TT.w] at hy;exact zbb x hy (jC (g3.heads x hx) (by omega) (Nat.le_refl _))
          · rw [TT.w]; exact wIn
        · refine ⟨v2, _, yO, t2.same s3, by simp [tabs], fun x hx hy => ?_, ?_, TT.cx⟩
          · rw [TT.x] at hy;exact zat x hy (jC (g3.heads x hx) (by omega) (Nat.le_refl _))
          · rw [TT.x]; exact eIn
      obtain ⟨tp', thp, trp, ts, rfl, c1, c3, c4, c5⟩ := id ht;have lts : ts.length = (tr n).length := by rw [← c5, List.length_map]
      have f3 := s3 _ _ f0;refine ⟨_, rfl, p, _, _, _, rfl, rfl, SqT.of h1, z0I, rp, _, rfl, .inl (SqL.of h4'.1), _, rfl, _, rfl, tp, _, _, _, rfl, rfl, SqL.of f3, tat, tp', _, _, _, rfl, rfl, SqT.of c1, yO, trp, _, rfl, .inl (SqL.of c4.1), _, _, rfl, rfl, .inl ⟨by rw [List.length_map]; omega, by rw [List.length_map]; omega⟩, _, _, rfl, rfl, _, rfl, ?_⟩;refine yu (fun b4 => ?_) (fun b4 => els);have b4' := of_decide_eq_true b4;rw [List.length_map, List.length_map, lts] at b4';have b5 : (rowsOf th tr q).length * (tr n).length ≤ 30 := by
        rw [← h5, List.length_map]
        exact_mod_cast b4'
      have thl : (th n).length ≤ 1000 := by
        have : used = 1 ∨ used = 2 := by omega
        have := z1k (TT.hd n mn).2 fun x hx => jC (hin x hx) (Nat.zero_le 26) (show used + 1 ≤ 3 by omega)
        have := z5m;omega
      refine ⟨_, rfl, _, rfl, _, rfl, tp, _, _, _, rfl, rfl, SqL.of f3, tat, _, rfl, th, tr, q, n, _, _, _, rfl, TT, st3, g3.ok, ht, mn, hdj, by omega, by omega, by omega, by omega, thl, fun v' q' H' s' st' un => ?_⟩;refine ⟨_, rfl, _, _, rfl, rfl, ?_⟩;exact ⟨v', q', used + 1, twice, _, _, _, rfl, s3.trans s', st', g3.unite un hin b5, by omega, by omega, w2⟩
    case els =>
      refine z69 (zas ?els2) (fun els => ?main2)
      case main2 =>
        refine ⟨_, rfl, rfl, _, rfl, ?_⟩;refine yu (fun b2 => ?_) (fun b2 => els);refine ⟨_, rfl, _, _, rfl, rfl, _, rfl, ?_⟩;refine yu (fun b3 => ?_) (fun b3 => els);have b3' : (twice : Int) < 2 := of_decide_eq_true b3;have tw2 : twice < 2 := by omega
        obtain ⟨p, qv, hp, rp, rs, rfl, h1, h2, h3, h4', h5⟩ := id st3;refine ⟨_, rfl, p, _, _, _, rfl, rfl, SqT.of h1, z0I, rp, _, rfl, .inl (SqL.of h4'.1), _, rfl, _, _, rfl, rfl, .inl ⟨by decide, by decide⟩, _, _, rfl, rfl, _, _, rfl, rfl, _, rfl, ?_⟩;refine yu (fun b4 => ?_) (fun b4 => els);have b4' := of_decide_eq_true b4;rw [List.length_map] at b4';have b5 : (rowsOf th tr q).length ≤ 15 := by rw [← h5, List.length_map]; omega
        have f3 := s3 _ _ f0;obtain ⟨p3, hp3, rp3, rs3, rfl, d1, d3, d4, d5⟩ := id (t3.same s3);refine ⟨_, rfl, p, _, _, _, rfl, rfl, SqT.of h1, yO, _, rfl, tp, _, _, _, rfl, rfl, SqL.of f3, z0I, p3, _, _, _, rfl, rfl, SqT.of d1, yE, hp, hp3, _, _, rfl, rfl, SqL.of h3, SqL.of d3, yX _, yX _, _, rfl, _, ⟨_, rfl, _, _, rfl, rfl, (by show (0 : Int) < 3; decide), rfl, _, rfl, rfl, rfl⟩, ?_⟩;rw [z89];refine yu (fun b6 => ?_) (fun b6 => ?_)
        · rw [Bool.and_eq_true] at b6;have eh : zo th q = th "tuvz" := of_decide_eq_true b6.1;refine ⟨_, rfl, _, rfl, tp, _, _, _, rfl, rfl, SqL.of f3, z0I, _, rfl, th, tr, q, "tuvz", _, _, _, rfl, st3, t3.same s3, eh, by decide +kernel, by omega, by omega, by rw [TT.cz]; decide, fun v' q' H' s' st' e' => ?_⟩;refine ⟨_, rfl, _, _, rfl, rfl, ?_⟩;have mz : ("tuvz" : Str) ∈ tabs := by simp [tabs]
          have lz : (zz (.table "tuvz")).length ≤ (zz q).length + 1000 := Nat.le_trans (show (zz (.table "tuvz")).length ≤ 10 by decide +kernel) (by omega);have rz : (rowsOf th tr q).length + (rowsOf th tr (.table "tuvz")).length ≤ 60 := by
            show _ + (tr "tuvz").length ≤ 60
            rw [TT.cz]; omega
          exact ⟨v', q', used, twice + 1, _, _, _, rfl, s3.trans s', st', g3.both TT tw2 (r := .table "tuvz") mz eh.symm lz rz (by show 1 ≤ _; omega) e', u1, u3, by omega⟩
        · refine ⟨_, rfl, _, rfl, th, tr, q, _, _, rfl, TT, st3, g3.ok, by omega, by omega, fun v' q' c' H' s' st' sm sz e' => ?_⟩;refine ⟨_, rfl, _, _, rfl, rfl, ?_⟩;have gp := g3.pick TT sm sz;have rz : (rowsOf th tr q).length + (rowsOf th tr (.pick c' q)).length ≤ 60 := by
            have : (rowsOf th tr (.pick c' q)).length ≤ (rowsOf th tr q).length := List.length_filter_le _ _;omega
          exact ⟨v', q', used, twice + 1, _, _, _, rfl, s3.trans s', st', g3.both TT tw2 (r := .pick c' q) gp.ok rfl (z3a (ji TT g3.ok) sm sz) rz (by show depth q + 1 ≤ _; omega) e', u1, u3, by omega⟩
      case els2 =>
        refine ⟨_, rfl, rfl, _, rfl, ?_⟩;refine yu (fun b2 => ?_) (fun b2 => ?_)
        · refine ⟨_, rfl, _, rfl, th, tr, q, v, _, rfl, st3, by omega, fun v' q' H' s' st' hq' => ?_⟩;obtain ⟨m, mm, rfl | ⟨m', mm', rfl⟩⟩ := hq'
          · exact ⟨v', _, used, twice, _, _, _, rfl, s3.trans s', st', g3.first mm, u1, u3, w2⟩
          · exact ⟨v', _, used, twice, _, _, _, rfl, s3.trans s', st', g3.firsts mm mm', u1, u3, w2⟩
        refine ⟨_, rfl, rfl, _, rfl, ?_⟩;refine yu (fun b3 => ?_) (fun b3 => ?_)
        · obtain ⟨ch, ec, es⟩ := zac (i := i) (by omega);have l1 := (z28 _ (z2k (i := i) (by omega))).2.2;refine ⟨_, rfl, _, rfl, _, rfl, z8v, _, _, rfl, rfl, z8T, ec, th, tr, q, v, _, _, rfl, TT, st3, g3.ok, by rw [es]; exact l1, by omega, by omega, fun v' a b H' s' st' ma mb => ?_⟩;rw [es] at st';exact ⟨v', _, used, twice, _, _, _, rfl, s3.trans s', st', g3.group TT (by omega) u3 ma mb, u1, u3, w2⟩
        · refine ⟨_, rfl, _, rfl, th, tr, q, v, _, rfl, TT, st3, g3.ok, by omega, by omega, fun v' n' H' s' st' mn => ?_⟩;exact ⟨v', _, used, twice, _, _, _, rfl, s3.trans s', st', g3.sort TT mn, u1, u3, w2⟩
  · rintro σ H3 ⟨v, q, used, twice, o5, o6, o7, rfl, s3, st3, g3, u1, u3, w2⟩;rw [hln] at g3;exact ⟨_, rfl, fin v q used twice H3 s3 st3 g3 u3 w2⟩
theorem ints_snoc {zs : List Int} {z : Int} {j : Nat} (h : zs.length = j) : ∃ zs' : List Int, zs.map V.int ++ [V.int z] = zs'.map V.int ∧ zs'.length = j + 1 :=
  ⟨zs ++ [z], by rw [List.map_append]; rfl, by rw [List.length_append, h]; rfl⟩
theorem z9K {ns : List Int} (h : 0 < ns.length) : atI (ns.map V.int) (-1) = some (.int (ns.getD (ns.length - 1) 0)) := by
  have e := int_at (xs := ns) (i := ns.length - 1) (by omega);have h2 : ixN (ns.map V.int).length (-1) = some (ns.length - 1) := by
    unfold ixN;rw [if_neg (by decide), if_pos (by rw [List.length_map]; omega), List.length_map]
    congr 1
    omega
  unfold atI;rw [h2];exact e
structure Stk (H H' : Hp) (rp r0 r1 r2 : Addr) (a b c : List (Addr × List Int)) (hl : Nat) : Prop where
  same : zM H H'
  top : H' rp = some (.lst [.ref r0, .ref r1, .ref r2])
  h0 : jg H' r0 a
  h1 : jg H' r1 b
  h2 : jg H' r2 c
  f0 : H r0 = none
  f1 : H r1 = none
  f2 : H r2 = none
  n01 : r0 ≠ r1
  n02 : r0 ≠ r2
  n12 : r1 ≠ r2
  np0 : rp ≠ r0
  np1 : rp ≠ r1
  np2 : rp ≠ r2
  a0 : ∀ r ∈ a, r.1 ≠ r0 ∧ r.1 ≠ r1 ∧ r.1 ≠ r2
  a1 : ∀ r ∈ b, r.1 ≠ r0 ∧ r.1 ≠ r1 ∧ r.1 ≠ r2
  a2 : ∀ r ∈ c, r.1 ≠ r0 ∧ r.1 ≠ r1 ∧ r.1 ≠ r2
  w0 : ∀ r ∈ a, r.2.length = hl
  w1 : ∀ r ∈ b, r.2.length = 2
  w2 : ∀ r ∈ c, r.2.length = 1
theorem Stk.new {H H' H1 : Hp} {rp r0 r1 r2 : Addr} {a b c : List (Addr × List Int)} {hl : Nat} (s : Stk H H' rp r0 r1 r2 a b c hl) (e : zM H' H1) : Stk H H1 rp r0 r1 r2 a b c hl :=
  { s with same := s.same.trans e, top := e _ _ s.top, h0 := s.h0.same e, h1 := s.h1.same e, h2 := s.h2.same e }
theorem Stk.fresh {H H' : Hp} {rp r0 r1 r2 q : Addr} {a b c : List (Addr × List Int)} {hl : Nat} (s : Stk H H' rp r0 r1 r2 a b c hl) (h : H' q = none) : q ≠ r0 ∧ q ≠ r1 ∧ q ≠ r2 :=
  ⟨(zy s.h0.1 h).symm, (zy s.h1.1 h).symm, (zy s.h2.1 h).symm⟩
theorem Stk.push0 {H H' : Hp} {rp r0 r1 r2 q : Addr} {a b c : List (Addr × List Int)} {hl : Nat} {x : List Int} (s : Stk H H' rp r0 r1 r2 a b c hl) (hq : H' q = some (.lst (x.map V.int))) (nq : q ≠ r0 ∧ q ≠ r1 ∧ q ≠ r2) (hx : x.length = hl) :
    Stk H (upd H' r0 (.lst (refs a ++ [V.ref q]))) rp r0 r1 r2 (a ++ [(q, x)]) b c hl where
  same := s.same.put s.f0
  top := by rw [zO s.np0]; exact s.top
  h0 := s.h0.push nq.1 hq
  h1 := s.h1.kp z1e s.n01.symm fun r m => (s.a1 r m).1
  h2 := s.h2.kp z1e s.n02.symm fun r m => (s.a2 r m).1
  f0 := s.f0
  f1 := s.f1
  f2 := s.f2
  n01 := s.n01
  n02 := s.n02
  n12 := s.n12
  np0 := s.np0
  np1 := s.np1
  np2 := s.np2
  a0 := fun r m => (List.mem_append.mp m).elim (s.a0 r) fun m => by rw [List.mem_singleton.mp m]; exact nq
  a1 := s.a1
  a2 := s.a2
  w0 := fun r m => (List.mem_append.mp m).elim (s.w0 r) fun m => by rw [List.mem_singleton.mp m]; exact hx
  w1 := s.w1
  w2 := s.w2
theorem Stk.push1 {H H' : Hp} {rp r0 r1 r2 q : Addr} {a b c : List (Addr × List Int)} {hl : Nat} {x : List Int} (s : Stk H H' rp r0 r1 r2 a b c hl) (hq : H' q = some (.lst (x.map V.int))) (nq : q ≠ r0 ∧ q ≠ r1 ∧ q ≠ r2) (hx : x.length = 2) :
    Stk H (upd H' r1 (.lst (refs b ++ [V.ref q]))) rp r0 r1 r2 a (b ++ [(q, x)]) c hl where
  same := s.same.put s.f1
  top := by rw [zO s.np1]; exact s.top
  h0 := s.h0.kp z1e s.n01 fun r m => (s.a0 r m).2.1
  h1 := s.h1.push nq.2.1 hq
  h2 := s.h2.kp z1e s.n12.symm fun r m => (s.a2 r m).2.1
  f0 := s.f0
  f1 := s.f1
  f2 := s.f2
  n01 := s.n01
  n02 := s.n02
  n12 := s.n12
  np0 := s.np0
  np1 := s.np1
  np2 := s.np2
  a0 := s.a0
  a1 := fun r m => (List.mem_append.mp m).elim (s.a1 r) fun m => by rw [List.mem_singleton.mp m]; exact nq
  a2 := s.a2
  w0 := s.w0
  w1 := fun r m => (List.mem_append.mp m).elim (s.w1 r) fun m => by rw [List.mem_singleton.mp m]; exact hx
  w2 := s.w2
theorem Stk.push2 {H H' : Hp} {rp r0 r1 r2 q : Addr} {a b c : List (Addr × List Int)} {hl : Nat} {x : List Int} (s : Stk H H' rp r0 r1 r2 a b c hl) (hq : H' q = some (.lst (x.map V.int))) (nq : q ≠ r0 ∧ q ≠ r1 ∧ q ≠ r2) (hx : x.length = 1) :
    Stk H (upd H' r2 (.lst (refs c ++ [V.ref q]))) rp r0 r1 r2 a b (c ++ [(q, x)]) hl where
  same := s.same.put s.f2
  top := by rw [zO s.np2]; exact s.top
  h0 := s.h0.kp z1e s.n02 fun r m => (s.a0 r m).2.2
  h1 := s.h1.kp z1e s.n12 fun r m => (s.a1 r m).2.2
  h2 := s.h2.push nq.2.2 hq
  f0 := s.f0
  f1 := s.f1
  f2 := s.f2
  n01 := s.n01
  n02 := s.n02
  n12 := s.n12
  np0 := s.np0
  np1 := s.np1
  np2 := s.np2
  a0 := s.a0
  a1 := s.a1
  a2 := fun r m => (List.mem_append.mp m).elim (s.a2 r) fun m => by rw [List.mem_singleton.mp m]; exact nq
  w0 := s.w0
  w1 := s.w1
  w2 := fun r m => (List.mem_append.mp m).elim (s.w2 r) fun m => by rw [List.mem_singleton.mp m]; exact hx
theorem zW : FnScope ["_law_cells", "_law_more", "_law_rows", "_law_heads", "_law_k", "_law_cell", "_law_one", "_law_other", "_law_rest", "_law_first", "_law_made"] ["_law_cells", "_law_more"] (zv jo) := ⟨rfl, rfl, rfl, by decide +kernel, rfl, by decide +kernel, by decide +kernel⟩
set_option maxHeartbeats 1600000 in
theorem z2L (F : Fun K "_law_stocked" "_law_stocked" jo f fd) (T : Txt K mg) : FnOk P w K mg base CX0 1 f fd ["_law_cells", "_law_more"] (z2i K) := by
  refine F.ok zW (fun vs H Q E h => ?_) (fun cdv A outer s H vs Q E hr h => ?_)
  · obtain ⟨cp, ns, more, rfl, _⟩ := h
    rfl
  obtain ⟨cp, ns, more, rfl, hS, hn, hm0, hm1, fin⟩ := h;have hln : (ns.map V.int).length = ns.length := List.length_map _;have z0 : 0 ≤ sizeLine := by decide
  refine ⟨_, (zj (zu (i := 2) zW.nd rfl (Or.inl rfl) (zV (kU (zV zi) (kU (zV zi) (kU (zV zi) zi)))))
    (zj (zu (i := 3) zW.nd rfl (Or.inr rfl) (zV (zn zm (zn zm (zn zm (zn zm (zn zm (zn zm (zn zm (zn zm (zn zm (zn zm (zn zm (zn zm zi))))))))))))))
    (zj (zu (i := 3) zW.nd rfl (Or.inr rfl) (jh yB (pv 3) jF (jq (zw zT (zV (yd (zr yW zd (zr j8 (zI (z0W rfl) rfl T.sum PyProof.Rows.boot_sum (zF (jh yB (pv 0) jF (jq zd)) zi)) zd)) (zn zd zi))) (yl z48 rfl T.int PyProof.Rows.boot_int (z7a (kT jm (zr j8 (zI (z0W rfl) rfl T.sum PyProof.Rows.boot_sum (zF (jh yB (pv 0) jF (jq zd)) zi)) zd) zd (zN _)) zi)) (fun _ _ => rfl)))))
    (zj (z02 PassesOwn.never rfl (kd rfl T.range (ya (zI (z4i rfl) rfl T.max PyProof.Rows.boot_max (zn zd (ya (zI zK rfl T.len PySem.boot_len (zl (pv 0) zi)) zi))) zi)) (yQ (i := 4) zW.nd rfl (Or.inr rfl))
      (zj (zu (i := 5) zW.nd rfl (Or.inr rfl) (zr yW (zr z1H zd (pv 4)) zd))
      (zj (kN (zG z2F (pv 4) (zI zK rfl T.len PySem.boot_len (zl (pv 0) zi)) (zN _))
        (zq (zu (i := 5) zW.nd rfl (Or.inr rfl) (zw zT (pv 0) (pv 4) (fun _ _ => rfl))))
        zQ)
      (zj (zu (i := 6) zW.nd rfl (Or.inl rfl) (zr z14 (zr j8 (pv 5) zd) zd))
      (zj (zu (i := 7) zW.nd rfl (Or.inl rfl) (zr z14 (zr j8 (zr yW (zr yk (pv 5) zd) (pv 4)) zd) zd))
      (zj (kN (zG jm (zr j8 (pv 5) zd) zd (zN _))
        (zq (zu (i := 7) zW.nd rfl (Or.inl rfl) (zr yW (pv 7) (z2U ⟨by decide, by decide, by decide⟩))))
        zQ)
      (zj (yD (j := 8) rfl zW.nd rfl (Or.inl rfl) (CompSc.of (sx := zv jo) (NX := ["_law_cells", "_law_more", "_law_rows", "_law_heads", "_law_k", "_law_cell", "_law_one", "_law_other", "_law_rest", "_law_first", "_law_made"]) (fr := ["_law_cell", "_law_k"]) (ix := [5, 4]) rfl rfl (by decide +kernel)) (z7p rfl T.range (zn zd (ya (zI zK rfl T.len PySem.boot_len (zl (pv 3) zi)) zi))) (fun _ _ _ _ _ _ => kf) (fun _ _ _ _ _ _ => (zr j8 (zr yW (zr yW (zr yk (pv 1) zd) (pv 2)) (pv 0)) zd)))
      (zj (zu (i := 9) zW.nd rfl (Or.inl rfl) (zr jR (zV (zl (pv 6) (zl (pv 7) zi))) (pv 8)))
      (zq (kW (jZ PySem.F.plainAttrs_list PySem.F.slot_list_append PySem.F.type_list_append yK (zw zT (pv 2) (zr j8 (pv 4) zd) (fun _ _ => rfl)) (zF (zw zT (zV (zl (pv 9) (kU (zV (zl (pv 7) (zl (pv 6) zi))) (kU (zV (zl (pv 6) zi)) zi)))) (zr j8 (pv 4) zd) (fun _ _ => rfl)) zi))))))))))))
    (zj (kN (zG jm (zr j8 (zI (z0W rfl) rfl T.sum PyProof.Rows.boot_sum (zF (jh yB (pv 0) (jq (z1g z0h zd)) jF) zi)) zd) zd (zN _))
      (zq (z02 PassesOwn.never rfl (kd rfl T.range (zl (pv 1) zi)) (yQ (i := 4) zW.nd rfl (Or.inr rfl))
        (zq (kW (jZ PySem.F.plainAttrs_list PySem.F.slot_list_append PySem.F.type_list_append yK (zw zT (pv 2) zd (fun _ _ => rfl)) (z70 (z1n rfl (CompSc.of (sx := zv jo) (NX := ["_law_cells", "_law_more", "_law_rows", "_law_heads", "_law_k", "_law_cell", "_law_one", "_law_other", "_law_rest", "_law_first", "_law_made"]) (fr := ["_law_k"]) (ix := [4]) rfl rfl (by decide +kernel)) (kd rfl T.range (ya (zI zK rfl T.len PySem.boot_len (zl (pv 3) zi)) zi)) (fun _ _ _ _ _ _ => kf) (fun _ _ _ _ _ _ => (zr z14 (zr j8 (zr yW (pv 1) (pv 0)) zd) zd))) zi))))))
      zQ)
    (zj (kN (PW.pt (z3G (zG z3e (zI zK rfl T.len PySem.boot_len (zl (pv 0) zi)) zd (zN _)) (z4Y (zG jm (zr j8 (zw zT (pv 0) zd (fun _ _ => rfl)) zd) zd (zN _)))))
      (zq (zaP (zV zi) (zb0 (pv 2) (zr j8 (zw zT (pv 0) (z1g z0h zd) (fun _ _ => rfl)) zd) set_list)))
      zQ)
    (zj (zu (i := 10) zW.nd rfl (Or.inl rfl) (zV (zS (zJ (zn zm (zl (pv 3) (zF (zw zT (pv 2) zd (fun _ _ => rfl)) zi)))) (zS (zJ (zn zm (kU (zV (zn zm (zn zm zi))) (zF (zw zT (pv 2) zd (fun _ _ => rfl)) zi)))) zi))))
    (zj (yD (j := 7) rfl zW.nd rfl (Or.inl rfl) (CompSc.of (sx := zv jo) (NX := ["_law_cells", "_law_more", "_law_rows", "_law_heads", "_law_k", "_law_cell", "_law_one", "_law_other", "_law_rest", "_law_first", "_law_made"]) (fr := ["_law_heads"]) (ix := [3]) rfl rfl (by decide +kernel)) (kd rfl T.range (zn zd zi)) (fun _ _ _ _ _ _ => kf) (fun _ _ _ _ _ _ => (z1n rfl (CompSc.of2 (sx := zv jo) (NX := ["_law_m", "_law_heads"]) (fr := ["_law_m"]) (ix := [0]) rfl rfl (by decide +kernel)) (kd rfl T.range (ya (zI (z3U (K := K) rfl) rfl T.len PySem.boot_len (zl (pv 1) zi)) zi)) (fun _ _ _ _ _ _ => kf) (fun _ _ _ _ _ _ => (zr z14 (zr j8 (zr yW (zr z1H zd (pv 1)) (pv 0)) zd) zd)))))
    (zq (zR (zr jR (pv 10) (zV (zS (zJ (zn zm (kU (zV (zn zm zi)) (zF (zw zT (pv 2) zd (fun _ _ => rfl)) zi)))) (zS (zJ (zn zm (ya (yl z2b rfl T.list PyProof.Rows.boot_list (zl (pv 3) zi)) (zl (pv 7) zi)))) zi)))))))))))))), ?_⟩
  refine ⟨z0, fun r0 hr0 => ?_⟩;refine zc (upd _ r0 _) rfl hr0 fun H1 n1 x1 => ?_
  refine ⟨z0, fun r1 hr1 => ?_⟩;refine zc (upd _ r1 _) rfl hr1 fun H2 n2 x2 => ?_
  refine ⟨z0, fun r2 hr2 => ?_⟩;refine zc (upd _ r2 _) rfl hr2 fun H3 n3 x3 => ?_
  refine ⟨zt (by show 3 ≤ _; decide), fun rp hrp => ?_⟩;refine zc (upd _ rp _) rfl hrp fun H4 n4 x4 => ?_
  refine ⟨zt (by show 12 ≤ _; decide), fun hp0 hhp0 => ?_⟩;refine zc (upd _ hp0 _) rfl hhp0 fun H5 n5 x5 => ?_
  replace x5 : H5 hp0 = some (.lst (letters.map V.str)) := x5;have s3 := n1.trans (n2.trans n3);have s5 := s3.trans (n4.trans n5);have stk5 : ∀ hl, Stk H H5 rp r0 r1 r2 [] [] [] hl := fun hl => ⟨s5, n5 _ _ x4, kH (n5 _ _ (n4 _ _ (n3 _ _ (n2 _ _ x1)))), kH (n5 _ _ (n4 _ _ (n3 _ _ x2))), kH (n5 _ _ (n4 _ _ x3)), hr0, n1.free hr1, (n1.trans n2).free hr2, zy x1 hr1, zy (n2 _ _ x1) hr2, zy x2 hr2,
    (zy (n3 _ _ (n2 _ _ x1)) hrp).symm, (zy (n3 _ _ x2) hrp).symm, (zy x3 hrp).symm, fun _ z => (by cases z), fun _ z => (by cases z), fun _ z => (by cases z), fun _ z => (by cases z), fun _ z => (by cases z), fun _ z => (by cases z)⟩
  refine ⟨_, rfl, _, rfl, _, rfl, cp, _, rfl, s5.seq hS, fun l1 hl1 => ?_⟩;rw [z1x];refine zc (upd _ l1 _) rfl hl1 fun H6 n6 x6 => ?_
  refine ⟨l1, _, rfl, SqL.of x6, _, _, rfl, rfl, (by show (0 : Int) < 5; decide), _, _, rfl, rfl, zt (by show 2 ≤ _; decide), fun l2 hl2 => ?_⟩;generalize ((ns.drop (HT.sIx ns.length 0 none)).take (HT.sIx ns.length ns.length (some 1) - HT.sIx ns.length 0 none)).sum = sm;refine zc (upd _ l2 _) rfl hl2 fun H7 n7 x7 => ?_
  refine ⟨_, rfl, _, rfl, cp, _, rfl, (s5.trans (n6.trans n7)).seq hS, fun l3 hl3 => ?_⟩;rw [z1x];refine zc (upd _ l3 _) rfl hl3 fun H8 n8 x8 => ?_
  refine ⟨l3, _, rfl, SqL.of x8, _, _, rfl, rfl, (by show (0 : Int) < 11; decide), rfl, .inr ⟨_, rfl, ?_⟩⟩;have n58 := n6.trans (n7.trans n8);obtain ⟨m, m1, m2, em⟩ : ∃ m : Int, 2 ≤ m ∧ m ≤ 12 ∧ atI [V.int (2 + sm % 5), V.int 12] (if decide (V.int (((ns.drop (HT.sIx ns.length 0 none)).take (HT.sIx ns.length ns.length (some 1) - HT.sIx ns.length 0 none)).sum % 11) = V.int 4) = true then 1 else 0) = some (.int m) := by
    cases decide (V.int (((ns.drop (HT.sIx ns.length 0 none)).take (HT.sIx ns.length ns.length (some 1) - HT.sIx ns.length 0 none)).sum % 11) = V.int 4) with
    | true => exact ⟨12, by decide, by decide, yE⟩
    | false => exact ⟨2 + sm % 5, by omega, by omega, yc⟩
  refine ⟨l2, _, _, _, rfl, rfl, SqL.of (n8 _ _ x7), em, _, rfl, hp0, _, rfl, SqL.of (n58 _ _ x5), fun hp hhp => ?_⟩;rw [z1r (by omega), ← List.map_take];refine zc (upd _ hp _) rfl hhp fun H9 n9 x9 => ?_
  have hl12 : (letters.take m.toNat).length = m.toNat := by
    rw [List.length_take];have : letters.length = 12 := rfl;omega
  have stk9 := (stk5 m.toNat).new (n58.trans n9);have hhl : ((letters.take m.toNat).map V.str).length = m.toNat := by rw [List.length_map, hl12]
  have nh0 : hp ≠ r0 := (zy ((n58 _ _ ((stk5 0).h0.1))) hhp).symm;have nh1 : hp ≠ r1 := (zy ((n58 _ _ ((stk5 0).h1.1))) hhp).symm;have nh2 : hp ≠ r2 := (zy ((n58 _ _ ((stk5 0).h2.1))) hhp).symm;have nhp : hp ≠ rp := (zy ((n58 _ _ ((stk5 0).top))) hhp).symm;have hpH : ∀ {H' : Hp}, zM H9 H' → H' hp = some (.lst ((letters.take m.toNat).map V.str)) := fun e => e _ _ x9
  have emax : (if (((ns.map V.int).length : Nat) : Int) > 12 then (((ns.map V.int).length : Nat) : Int) else 12) = ((max 12 ns.length : Nat) : Int) := by
    rw [hln]; split <;> omega
  refine ⟨_, rfl, cp, _, rfl, .inl (stk9.same.seq hS), _, _, rfl, ((max 12 ns.length : Nat) : Int), congrArg (fun z => [V.int z]) emax, by omega, by omega, z0F (lo := 0) (n := max 12 ns.length) (fun i σ H' => ∃ (a b c : List (Addr × List Int)) (o4 o5 o6 o7 o8 o9 : Option V), σ = [some (.ref cp), some (.int more), some (.ref rp), some (.ref hp), o4, o5, o6, o7, o8, o9, none] ∧ Stk H H' rp r0 r1 r2 a b c m.toNat ∧ H' hp = some (.lst ((letters.take m.toNat).map V.str)) ∧
    a.length = (i + 2) / 3 ∧ b.length = (i + 1) / 3 ∧ c.length = i / 3) ⟨[], [], [], none, none, none, none, none, none, rfl, stk9, x9, rfl, rfl, rfl⟩ ?_ ?_⟩
  · rintro i σ G hi ⟨a, b, c, o4, o5, o6, o7, o8, o9, rfl, k0, hhp0, la, lb, lc⟩;have hi18 : i < 18 := by omega
    refine ⟨_, rfl, _, _, rfl, rfl, .inl ⟨by decide, by decide⟩, _, _, rfl, rfl, ?_⟩;refine ⟨fun σ G' => ∃ cell : Int, σ = [some (.ref cp), some (.int more), some (.ref rp), some (.ref hp), some (.int (0 + (i : Int))), some (.int cell), o6, o7, o8, o9, none] ∧ G' = G, ?_, ?_⟩
    · refine ⟨_, rfl, _, rfl, cp, _, rfl, .inl (k0.same.seq hS), _, _, rfl, rfl, _, rfl, ?_⟩;refine yu (fun hb => ?_) (fun hb => ?_)
      · have hb' := of_decide_eq_true hb;rw [hln] at hb';have hat : atI (ns.map V.int) (0 + (i : Int)) = some (.int (ns.getD i 0)) := by rw [Int.zero_add]; exact jr (int_at (by omega))
        refine ⟨_, rfl, _, rfl, cp, _, _, _, rfl, rfl, k0.same.seq hS, hat, ?_⟩;exact ⟨_, rfl, rfl⟩
      · exact ⟨_, rfl, rfl⟩
    rintro σ G ⟨cell, rfl, rfl⟩;refine ⟨_, rfl, _, _, rfl, rfl, (by show (0 : Int) < 4; decide), _, _, rfl, rfl, ?_⟩;refine ⟨_, rfl, _, _, rfl, rfl, ⟨by decide, by decide⟩, _, rfl, _, _, rfl, rfl, _, _, rfl, rfl, (by show (0 : Int) < 5; decide), _, _, rfl, rfl, ?_⟩;refine ⟨fun σ G' => ∃ one other : Int, σ = [some (.ref cp), some (.int more), some (.ref rp), some (.ref hp), some (.int (0 + (i : Int))), some (.int cell), some (.int one), some (.int other), o8, o9, none] ∧ G' = G, ?_, ?_⟩
    · refine ⟨_, rfl, _, _, rfl, rfl, (by show (0 : Int) < 23; decide), rfl, _, rfl, ?_⟩;refine yu (fun hb => ?_) (fun hb => ?_)
      · refine ⟨_, rfl, _, _, rfl, rfl, ?_⟩;exact ⟨_, _, rfl, rfl⟩
      · exact ⟨_, _, rfl, rfl⟩
    rintro σ G ⟨one, other, rfl, rfl⟩;refine ⟨_, rfl, hp, _, rfl, .inl (SqL.of hhp0), 2, (m.toNat : Int), congrArg (fun z : Nat => [V.int 2, V.int ((z : Nat) : Int)]) hhl, ⟨by omega, by omega, by omega, by omega⟩, ?_⟩;refine kY (lo := 2) (n := ((m.toNat : Int) - 2).toNat) (fun j ys H' => H' = G ∧ ∃ zs : List Int, ys = zs.map V.int ∧ zs.length = j) ⟨rfl, [], rfl, rfl⟩ ?_ ?_ ?_
    · rintro j ys G' hj ⟨rfl, zs, rfl, lz⟩;exact jj (by rw [List.length_map]; omega)
    · rintro j ys G' hj ⟨rfl, zs, rfl, lz⟩;refine ⟨_, rfl, _, _, rfl, rfl, ⟨by decide, by decide⟩, _, rfl, _, _, rfl, rfl, _, rfl, _, _, rfl, rfl, _, _, rfl, rfl, (by show (0 : Int) < 3; decide), rfl, ints_snoc lz⟩
    rintro ys G ⟨rfl, rest, rfl, lrest⟩ tp htp;refine zc (upd _ tp _) rfl htp fun G1 e1 y1 => ?_
    have hrl : 2 + rest.length = m.toNat := by omega
    refine ⟨_, rfl, _, rfl, zt (by show 2 ≤ _; decide), fun l4 hl4 => ?_⟩;refine zc (upd _ l4 _) rfl hl4 fun G2 e2 y2 => ?_
    refine ⟨_, rfl, l4, tp, _, _, rfl, rfl, y2, e2 _ _ y1, zt (by rw [List.length_map]; simp only [List.length_cons, List.length_nil]; omega), fun fp hfp => ?_⟩;have k2 := k0.new (e1.trans e2);have nf := k2.fresh hfp;refine zc (upd _ fp _) rfl hfp fun G3 e3 x9 => ?_
    replace x9 : G3 fp = some (.lst (([one, other] ++ rest).map V.int)) := by rw [x9, List.map_append]; rfl
    have k3 := k2.new e3;have hp3 := (e1.trans (e2.trans e3)) _ _ hhp0;have h3' : i % 3 = 0 ∨ i % 3 = 1 ∨ i % 3 = 2 := by omega
    rcases h3' with h3n | h3n | h3n
    · have h3 : (0 + (i : Int)) % 3 = 0 := by omega
      have at3 : atI [V.ref r0, V.ref r1, V.ref r2] ((0 + (i : Int)) % 3) = some (V.ref r0) := by rw [h3]; exact yc
      refine ⟨_, rfl, _, rfl, _, _, rfl, rfl, (by show (0 : Int) < 3; decide), rp, _, _, _, rfl, rfl, SqL.of k3.top, at3, .inl ⟨rfl, _, SqL.of k3.h0.1⟩, _, rfl, _, rfl, _, rfl, zt (by show 2 ≤ _; decide), fun u1 hu1 => ?_⟩;refine zc (upd _ u1 _) rfl hu1 fun G4 m1' y4 => ?_
      refine ⟨_, rfl, zt (by show 1 ≤ _; decide), fun u2 hu2 => ?_⟩;refine zc (upd _ u2 _) rfl hu2 fun G5 m2' y5 => ?_
      refine ⟨zt (by show 3 ≤ _; decide), fun u3 hu3 => ?_⟩;refine zc (upd _ u3 _) rfl hu3 fun G6 m3' y6 => ?_
      have k6 := k3.new (m1'.trans (m2'.trans m3'));have hp6 := (m1'.trans (m2'.trans m3')) _ _ hp3;refine ⟨_, rfl, _, _, rfl, rfl, (by show (0 : Int) < 3; decide), u3, _, _, _, rfl, rfl, SqL.of y6, by rw [h3]; exact yc, r0, _, _, rfl, rfl, k6.h0.1, jj (by rw [List.length_map]; omega), ?_⟩;refine ⟨_, _, _, _, _, _, _, _, _, rfl, k6.push0 (x := [one, other] ++ rest) ((m1'.trans (m2'.trans m3')) _ _ x9) nf (by simp; omega), by rw [zO nh0]; exact hp6, by rw [List.length_append, List.length_singleton]; omega, by omega, by omega⟩
    · have h3 : (0 + (i : Int)) % 3 = 1 := by omega
      have at3 : atI [V.ref r0, V.ref r1, V.ref r2] ((0 + (i : Int)) % 3) = some (V.ref r1) := by rw [h3]; exact yE
      refine ⟨_, rfl, _, rfl, _, _, rfl, rfl, (by show (0 : Int) < 3; decide), rp, _, _, _, rfl, rfl, SqL.of k3.top, at3, .inl ⟨rfl, _, SqL.of k3.h1.1⟩, _, rfl, _, rfl, _, rfl, zt (by show 2 ≤ _; decide), fun u1 hu1 => ?_⟩;refine zc (upd _ u1 _) rfl hu1 fun G4 m1' y4 => ?_
      refine ⟨_, rfl, zt (by show 1 ≤ _; decide), fun u2 hu2 => ?_⟩;refine zc (upd _ u2 _) rfl hu2 fun G5 m2' y5 => ?_
      refine ⟨zt (by show 3 ≤ _; decide), fun u3 hu3 => ?_⟩;refine zc (upd _ u3 _) rfl hu3 fun G6 m3' y6 => ?_
      have k6 := k3.new (m1'.trans (m2'.trans m3'));have hp6 := (m1'.trans (m2'.trans m3')) _ _ hp3;refine ⟨_, rfl, _, _, rfl, rfl, (by show (0 : Int) < 3; decide), u3, _, _, _, rfl, rfl, SqL.of y6, by rw [h3]; exact yE, r1, _, _, rfl, rfl, k6.h1.1, jj (by rw [List.length_map]; omega), ?_⟩;refine ⟨_, _, _, _, _, _, _, _, _, rfl, k6.push1 (x := [other, one]) (m3' _ _ (m2' _ _ y4)) (k3.fresh hu1) rfl, by rw [zO nh1]; exact hp6, by omega, by rw [List.length_append, List.length_singleton]; omega, by omega⟩
    · have h3 : (0 + (i : Int)) % 3 = 2 := by omega
      have at3 : atI [V.ref r0, V.ref r1, V.ref r2] ((0 + (i : Int)) % 3) = some (V.ref r2) := by rw [h3]; exact yO
      refine ⟨_, rfl, _, rfl, _, _, rfl, rfl, (by show (0 : Int) < 3; decide), rp, _, _, _, rfl, rfl, SqL.of k3.top, at3, .inl ⟨rfl, _, SqL.of k3.h2.1⟩, _, rfl, _, rfl, _, rfl, zt (by show 2 ≤ _; decide), fun u1 hu1 => ?_⟩;refine zc (upd _ u1 _) rfl hu1 fun G4 m1' y4 => ?_
      refine ⟨_, rfl, zt (by show 1 ≤ _; decide), fun u2 hu2 => ?_⟩;refine zc (upd _ u2 _) rfl hu2 fun G5 m2' y5 => ?_
      refine ⟨zt (by show 3 ≤ _; decide), fun u3 hu3 => ?_⟩;refine zc (upd _ u3 _) rfl hu3 fun G6 m3' y6 => ?_
      have k6 := k3.new (m1'.trans (m2'.trans m3'));have hp6 := (m1'.trans (m2'.trans m3')) _ _ hp3;refine ⟨_, rfl, _, _, rfl, rfl, (by show (0 : Int) < 3; decide), u3, _, _, _, rfl, rfl, SqL.of y6, by rw [h3]; exact yO, r2, _, _, rfl, rfl, k6.h2.1, jj (by rw [List.length_map]; omega), ?_⟩;refine ⟨_, _, _, _, _, _, _, _, _, rfl, k6.push2 (x := [one]) (m3' _ _ y5) ((k3.new m1').fresh hu2) rfl, by rw [zO nh2]; exact hp6, by omega, by omega, by rw [List.length_append, List.length_singleton]; omega⟩
  rintro σ G ⟨a, b, c, o4, o5, o6, o7, o8, o9, rfl, k0, hh0, la, lb, lc⟩;have la' : a.length ≤ 7 := by omega
  have lb' : b.length ≤ 7 := by omega
  have lc' : c.length ≤ 7 := by omega
  refine ⟨fun σ G' => ∃ (a : List (Addr × List Int)) (o4 : Option V), σ = [some (.ref cp), some (.int more), some (.ref rp), some (.ref hp), o4, o5, o6, o7, o8, o9, none] ∧ Stk H G' rp r0 r1 r2 a b c m.toNat ∧ G' hp = some (.lst ((letters.take m.toNat).map V.str)) ∧ a.length ≤ 60, ?_, ?_⟩
  · refine ⟨_, rfl, _, rfl, _, rfl, cp, _, rfl, k0.same.seq hS, fun l5 hl5 => ?_⟩;rw [z1x];refine zc (upd _ l5 _) rfl hl5 fun G1 e1 y1 => ?_
    refine ⟨l5, _, rfl, SqL.of y1, _, _, rfl, rfl, (by show (0 : Int) < 8; decide), rfl, _, rfl, ?_⟩;have k1 := k0.new e1;refine yu (fun hb => ?_) (fun hb => ?_)
    · refine ⟨_, rfl, more, rfl, by omega, by omega, z0F (lo := 0) (n := more.toNat) (fun i σ G' => ∃ (a : List (Addr × List Int)) (o4 : Option V), σ = [some (.ref cp), some (.int more), some (.ref rp), some (.ref hp), o4, o5, o6, o7, o8, o9, none] ∧ Stk H G' rp r0 r1 r2 a b c m.toNat ∧ G' hp = some (.lst ((letters.take m.toNat).map V.str)) ∧ a.length ≤ 7 + i) ⟨a, o4, rfl, k1, e1 _ _ hh0, la'⟩ ?_ ?_⟩
      · rintro i σ G2 hi ⟨a, o4, rfl, k2, hh2, la2⟩;refine ⟨_, rfl, rp, _, _, _, rfl, rfl, SqL.of k2.top, yc, .inl ⟨rfl, _, SqL.of k2.h0.1⟩, _, rfl, hp, _, rfl, .inl (SqL.of hh2), (m.toNat : Int), congrArg (fun z : Nat => [V.int ((z : Nat) : Int)]) hhl, by omega, by omega, ?_⟩;refine kY (lo := 0) (n := (m.toNat : Int).toNat) (fun j ys H' => H' = G2 ∧ ∃ zs : List Int, ys = zs.map V.int ∧ zs.length = j) ⟨rfl, [], rfl, rfl⟩ ?_ ?_ ?_
        · rintro j ys G' hj ⟨rfl, zs, rfl, lz⟩;exact jj (by rw [List.length_map]; omega)
        · rintro j ys G' hj ⟨rfl, zs, rfl, lz⟩;refine ⟨_, rfl, _, rfl, _, _, rfl, rfl, _, _, rfl, rfl, (by show (0 : Int) < 4; decide), _, _, rfl, rfl, rfl, ints_snoc lz⟩
        rintro ys G' ⟨rfl, zs, rfl, lz⟩ tp htp;have nf := k2.fresh htp;refine zc (upd _ tp _) rfl htp fun G3 e3 y3 => ?_
        have k3 := k2.new e3;refine ⟨r0, _, _, rfl, rfl, k3.h0.1, jj (by rw [List.length_map]; omega), ?_⟩;exact ⟨_, _, rfl, k3.push0 y3 nf (by rw [lz]; rfl), by rw [zO nh0]; exact e3 _ _ hh2, by rw [List.length_append, List.length_singleton]; omega⟩
      · rintro σ G2 ⟨a, o4, rfl, k2, hh2, la2⟩;exact ⟨a, o4, rfl, k2, hh2, by omega⟩
    · exact ⟨a, o4, rfl, k1, e1 _ _ hh0, by omega⟩
  rintro σ G1 ⟨a, o4, rfl, k1, hh1, la1⟩;refine ⟨fun σ G' => ∃ (s0 s1 s2 : Addr) (a b c : List (Addr × List Int)), σ = [some (.ref cp), some (.int more), some (.ref rp), some (.ref hp), o4, o5, o6, o7, o8, o9, none] ∧ zM H G' ∧ G' rp = some (.lst [.ref s0, .ref s1, .ref s2]) ∧ G' hp = some (.lst ((letters.take m.toNat).map V.str)) ∧ jg G' s0 a ∧ jg G' s1 b ∧ jg G' s2 c ∧
    (∀ r ∈ a, r.2.length = m.toNat) ∧ (∀ r ∈ b, r.2.length = 2) ∧ (∀ r ∈ c, r.2.length = 1) ∧ a.length ≤ 60 ∧ b.length ≤ 10 ∧ c.length ≤ 10, ?_, ?_⟩
  · have asIs : ∃ (s0 s1 s2 : Addr) (a b c : List (Addr × List Int)), ([some (.ref cp), some (.int more), some (.ref rp), some (.ref hp), o4, o5, o6, o7, o8, o9, none] : List (Option V)) = [some (.ref cp), some (.int more), some (.ref rp), some (.ref hp), o4, o5, o6, o7, o8, o9, none] ∧ zM H G1 ∧ G1 rp = some (.lst [.ref s0, .ref s1, .ref s2]) ∧ G1 hp = some (.lst ((letters.take m.toNat).map V.str)) ∧ jg G1 s0 a ∧ jg G1 s1 b ∧ jg G1 s2 c ∧
      (∀ r ∈ a, r.2.length = m.toNat) ∧ (∀ r ∈ b, r.2.length = 2) ∧ (∀ r ∈ c, r.2.length = 1) ∧ a.length ≤ 60 ∧ b.length ≤ 10 ∧ c.length ≤ 10 :=
      ⟨r0, r1, r2, a, b, c, rfl, k1.same, k1.top, hh1, k1.h0, k1.h1, k1.h2, k1.w0, k1.w1, k1.w2, la1, by omega, by omega⟩
    refine z69 (zas asIs) (fun els => ?_);refine ⟨_, rfl, cp, _, rfl, .inl (k1.same.seq hS), _, _, rfl, rfl, _, rfl, ?_⟩;refine yu (fun hb => ?_) (fun hb => els);have hb' := of_decide_eq_true hb;rw [hln] at hb';have hpos : 0 < ns.length := by omega
    have at0 : atI (ns.map V.int) 0 = some (.int (ns.getD 0 0)) := jr (j := 0) (int_at hpos);have atl : atI (ns.map V.int) (-1) = some (.int (ns.getD (ns.length - 1) 0)) := z9K hpos;refine ⟨_, rfl, cp, _, _, _, rfl, rfl, k1.same.seq hS, at0, _, _, rfl, rfl, (by show (0 : Int) < 9; decide), rfl, _, rfl, ?_⟩;refine yu (fun hc => ?_) (fun hc => els);refine ⟨z0, fun ep hep => ?_⟩;refine zc (upd _ ep _) rfl hep fun G2 e2 y2 => ?_
    generalize ns.getD (ns.length - 1) 0 = lst at atl;refine ⟨_, rfl, _, rfl, _, rfl, cp, _, _, _, rfl, rfl, (k1.same.trans e2).seq hS, atl, _, _, rfl, rfl, (by show (0 : Int) < 3; decide), ?_⟩;have k2 := k1.new e2;have nep : ep ≠ rp := (zy k1.top hep).symm;have frp : H rp = none := s3.free hrp;have h3' : lst % 3 = 0 ∨ lst % 3 = 1 ∨ lst % 3 = 2 := by omega
    have kp : ∀ {q : Addr} {rs : List (Addr × List Int)} {o : HO}, jg G2 q rs → q ≠ rp → jg (upd G2 rp o) q rs := fun {q rs o} h n => h.kp z1e n fun r m z => by
      have h1 := (h.2 r m).2;rw [z, k2.top] at h1;have h2 := congrArg (fun x => match x with | some (HO.lst xs) => xs | _ => []) h1;have h3 : [V.ref r0, V.ref r1, V.ref r2] = r.2.map V.int := h2;cases hr2 : r.2 with
      | nil => rw [hr2] at h3; cases h3
      | cons x xs => rw [hr2] at h3; cases h3
    rcases h3' with h3' | h3' | h3'
    · refine ⟨rp, _, _, 0, rfl, rfl, k2.top, by rw [h3']; rfl, ?_⟩;exact ⟨ep, r1, r2, [], b, c, rfl, (k2.same).put frp, zU, by rw [zO nhp]; exact e2 _ _ hh1, kp (kH y2) nep, kp k2.h1 k2.np1.symm, kp k2.h2 k2.np2.symm, fun _ z => (by cases z), k2.w1, k2.w2, Nat.zero_le _, by omega, by omega⟩
    · refine ⟨rp, _, _, 1, rfl, rfl, k2.top, by rw [h3']; rfl, ?_⟩;exact ⟨r0, ep, r2, a, [], c, rfl, (k2.same).put frp, zU, by rw [zO nhp]; exact e2 _ _ hh1, kp k2.h0 k2.np0.symm, kp (kH y2) nep, kp k2.h2 k2.np2.symm, k2.w0, fun _ z => (by cases z), k2.w2, la1, Nat.zero_le _, by omega⟩
    · refine ⟨rp, _, _, 2, rfl, rfl, k2.top, by rw [h3']; rfl, ?_⟩;exact ⟨r0, r1, ep, a, b, [], rfl, (k2.same).put frp, zU, by rw [zO nhp]; exact e2 _ _ hh1, kp k2.h0 k2.np0.symm, kp k2.h1 k2.np1.symm, kp (kH y2) nep, k2.w0, k2.w1, fun _ z => (by cases z), la1, by omega, Nat.zero_le _⟩
  rintro σ G2 ⟨s0, s1, s2, a, b, c, rfl, sm2, top2, hh2, j0, j1, j2, w0, w1, w2, c0, c1, c2⟩;refine ⟨_, rfl, _, rfl, rp, _, _, _, rfl, rfl, SqL.of top2, yc, zt (by show 3 ≤ _; decide), fun t0 ht0 => ?_⟩;refine zc (upd _ t0 _) rfl ht0 fun G3 e3 y3 => ?_
  refine ⟨zt (by show 2 ≤ _; decide), fun wl hwl => ?_⟩;refine zc (upd _ wl _) rfl hwl fun G4 e4 y4 => ?_
  refine ⟨_, rfl, rp, _, _, _, rfl, rfl, SqL.of (e4 _ _ (e3 _ _ top2)), yE, zt (by show 3 ≤ _; decide), fun t1 ht1 => ?_⟩;refine zc (upd _ t1 _) rfl ht1 fun G5 e5 y5 => ?_
  refine ⟨zt (by show 2 ≤ _; decide), fun mp hmp => ?_⟩;refine zc (upd _ mp _) rfl hmp fun G6 e6 y6 => ?_
  have e26 := e3.trans (e4.trans (e5.trans e6));refine ⟨3, rfl, by decide, by decide, ?_⟩;refine kY (lo := 0) (n := (3 : Int).toNat) (fun i ys H' => zM G6 H' ∧ ∃ qs : List (Addr × List Int), ys = refs qs ∧ qs.length = i ∧ (∀ r ∈ qs, H' r.1 = some (.lst (r.2.map V.int)) ∧ r.2.length = m.toNat)) ⟨zM.refl _, [], rfl, rfl, fun _ z => (by cases z)⟩ ?_ ?_ ?_
  · rintro i ys G' hi ⟨sm', qs, rfl, lq, hq⟩;exact jj (by rw [List.length_map, lq]; exact Nat.le_trans hi (by decide))
  · rintro i ys G' hi ⟨sm', qs, rfl, lq, hq⟩;have hh6 := sm' _ _ (e26 _ _ hh2);refine ⟨_, rfl, hp, _, rfl, .inl (SqL.of hh6), (m.toNat : Int), congrArg (fun z : Nat => [V.int ((z : Nat) : Int)]) hhl, by omega, by omega, ?_⟩;refine kY (lo := 0) (n := (m.toNat : Int).toNat) (fun j ys H' => H' = G' ∧ ∃ zs : List Int, ys = zs.map V.int ∧ zs.length = j) ⟨rfl, [], rfl, rfl⟩ ?_ ?_ ?_
    · rintro j ys G' hj ⟨rfl, zs, rfl, lz⟩;exact jj (by rw [List.length_map]; omega)
    · rintro j ys G' hj ⟨rfl, zs, rfl, lz⟩;refine ⟨_, rfl, _, _, rfl, rfl, .inl ⟨by decide, by decide⟩, _, rfl, _, _, rfl, rfl, _, _, rfl, rfl, (by show (0 : Int) < 5; decide), _, _, rfl, rfl, rfl, ints_snoc lz⟩
    · rintro ys G7 ⟨rfl, zs, rfl, lz⟩ lp hlp;have n8 := jB hlp (.lst (zs.map V.int));refine ⟨sm'.trans n8, qs ++ [(lp, zs)], by simp [refs], by rw [List.length_append, lq]; rfl, fun r mm => ?_⟩;rcases List.mem_append.mp mm with mm | mm
      · exact ⟨n8 _ _ (hq r mm).1, (hq r mm).2⟩
      · rw [List.mem_singleton.mp mm];exact ⟨zU, by rw [lz]; rfl⟩
  rintro ys G7 ⟨s67, qs, rfl, lq, hq⟩ op hop;refine zc (upd _ op _) rfl hop fun G8 e8 y8 => ?_
  have e68 := s67.trans e8;have e28 := e26.trans e68;have ro := kZ hop e8 y8 fun r mm => (hq r mm).1
  refine ⟨_, rfl, zt (by show 1 ≤ _; decide), fun xl hxl => ?_⟩;refine zc (upd _ xl _) rfl hxl fun G9 e9 y9 => ?_
  refine ⟨_, rfl, rp, _, _, _, rfl, rfl, SqL.of (e9 _ _ (e28 _ _ top2)), yO, zt (by show 3 ≤ _; decide), fun t2 ht2 => ?_⟩;refine zc (upd _ t2 _) rfl ht2 fun G10 e10 y10 => ?_
  refine ⟨_, rfl, hp, _, rfl, .inl (SqL.of (e10 _ _ (e9 _ _ (e28 _ _ hh2)))), fun cl hcl => ?_⟩;refine zc (upd _ cl _) rfl hcl fun G11 e11 y11 => ?_
  refine ⟨_, rfl, zt (by show 3 ≤ _; decide), fun t3 ht3 => ?_⟩;refine zc (upd _ t3 _) rfl ht3 fun G12 e12 y12 => ?_
  refine ⟨zt (by show 2 ≤ _; decide), fun bp hbp => ?_⟩;refine zc (upd _ bp _) rfl hbp fun G13 e13 y13 => ?_
  have e813 := e9.trans (e10.trans (e11.trans (e12.trans e13)));refine ⟨mp, bp, _, _, rfl, rfl, e813 _ _ (e68 _ _ y6), y13, zt (by show 4 ≤ _; decide), fun rpp hrpp => ?_⟩;refine zc (upd _ rpp _) rfl hrpp fun G14 e14 y14 => ?_
  have e814 := e813.trans e14;have e214 := e28.trans e814;have tok := tabs_ok (m := m.toNat) (r0 := a.map (·.2)) (r1 := b.map (·.2)) (r2 := c.map (·.2)) (r3 := qs.map (·.2)) (by omega) (by omega) (fun r mm => by obtain ⟨x, hx, rfl⟩ := List.mem_map.mp mm; rw [hl12]; exact w0 x hx) (fun r mm => by obtain ⟨x, hx, rfl⟩ := List.mem_map.mp mm; exact w1 x hx)
    (fun r mm => by obtain ⟨x, hx, rfl⟩ := List.mem_map.mp mm; exact w2 x hx) (fun r mm => by obtain ⟨x, hx, rfl⟩ := List.mem_map.mp mm; rw [hl12]; exact (hq x hx).2) (by rw [List.length_map]; exact c0) (by rw [List.length_map]; exact c1) (by rw [List.length_map]; exact c2) (by rw [List.length_map, lq]; rfl)
  refine fin rpp _ _ _ (sm2.trans e214) tok ⟨.ref t0, .ref t1, .ref t2, .ref t3, y14, ⟨t0, hp, s0, a, rfl, ?_, ?_, j0.same e214, ?_⟩, ⟨t1, wl, s1, b, rfl, ?_, ?_, j1.same e214, ?_⟩, ⟨t2, xl, s2, c, rfl, ?_, ?_, j2.same e214, ?_⟩, ⟨t3, cl, op, qs, rfl, ?_, ?_, ro.same e814, ?_⟩⟩
  · exact (e4.trans (e5.trans (e6.trans (e68.trans e814)))) _ _ y3
  · rw [show z18 (letters.take m.toNat) "t" = letters.take m.toNat by unfold z18; rw [if_neg (by decide +kernel), if_neg (by decide +kernel)]];exact e214 _ _ hh2
  · unfold z2e; rw [if_pos rfl]
  · exact (e6.trans (e68.trans e814)) _ _ y5
  · rw [show z18 (letters.take m.toNat) "tuvtuvtuvw" = z1I by unfold z18; rw [if_pos rfl]];exact (e5.trans (e6.trans (e68.trans e814))) _ _ y4
  · unfold z2e; rw [if_neg (by decide +kernel), if_pos rfl]
  · exact (e11.trans (e12.trans (e13.trans e14))) _ _ y10
  · rw [show z18 (letters.take m.toNat) "tuvtuvtuvx" = (["e"] : List Str) by unfold z18; rw [if_neg (by decide +kernel), if_pos rfl]];exact (e10.trans (e11.trans (e12.trans (e13.trans e14)))) _ _ y9
  · unfold z2e; rw [if_neg (by decide +kernel), if_neg (by decide +kernel), if_pos rfl]
  · exact (e13.trans e14) _ _ y12
  · rw [show z18 (letters.take m.toNat) "tuvz" = letters.take m.toNat by unfold z18; rw [if_neg (by decide +kernel), if_neg (by decide +kernel)]];exact (e12.trans (e13.trans e14)) _ _ y11
  · unfold z2e; rw [if_neg (by decide +kernel), if_neg (by decide +kernel), if_neg (by decide +kernel)]

def z4P : Sp := fun vs H Q _ => ∃ i : Int, vs = [.int i] ∧ Q (.bl true) H
theorem z3P : FnScope ["_law_found"] ["_law_found"] (zv ke) := ⟨rfl, rfl, rfl, by decide +kernel, rfl, by decide +kernel, by decide +kernel⟩
theorem z3T (F : Fun K "_law_whole" "_law_whole" ke f fd) (T : Txt K mg) : FnOk P w K mg base CX0 1 f fd ["_law_found"] z4P := by
  refine F.ok z3P (fun vs H Q E h => ?_) (fun cdv A outer s H vs Q E hr h => ?_)
  · obtain ⟨i, rfl, _⟩ := h
    rfl
  obtain ⟨i, rfl, q⟩ := h;refine ⟨_, (zq (zR (za5 (zI yA rfl T.isinstance PyProof.Rows.boot_isinstance (zl (pv 0) (zl (z0l (v := .ty "int") rfl T.int PyProof.Rows.boot_int rfl) zi))) (z6u (zI yA rfl T.isinstance PyProof.Rows.boot_isinstance (zl (pv 0) (zl (z0l (v := .ty "bool") rfl T.bool PyProof.Rows.boot_bool rfl) zi))))))), ?_⟩;exact ⟨_, rfl, _, _, _, _, rfl, TyOf.int i, z0i, _, rfl, _, ⟨_, rfl, _, _, _, _, rfl, TyOf.int i, z4T, _, rfl, rfl, rfl⟩, q⟩
mutual
inductive Tr where
  | s (x : Str) | i (n : Int) | t (l : Trs)
inductive Trs where
  | nil | cons (a : Tr) (r : Trs)
end
mutual
def jN (H : Hp) : Tr → V → Prop
  | .s x, v => v = .str x
  | .i n, v => v = .int n
  | .t l, v => ∃ p vs, v = .ref p ∧ H p = some (.tup vs) ∧ yi H l vs
def yi (H : Hp) : Trs → List V → Prop
  | .nil, vs => vs = []
  | .cons a r, vs => ∃ v ws, vs = v :: ws ∧ jN H a v ∧ yi H r ws
end
mutual
def Tr.size : Tr → Nat
  | .s _ => 1
  | .i _ => 1
  | .t l => 1 + l.size
def Trs.size : Trs → Nat
  | .nil => 0
  | .cons a r => a.size + r.size
end
def Trs.list : Trs → List Tr
  | .nil => []
  | .cons a r => a :: r.list
mutual
theorem jN.mono {H H' : Hp} (m : ∀ b xs, H b = some (.tup xs) → H' b = some (.tup xs)) : ∀ {t : Tr} {v : V}, jN H t v → jN H' t v
  | .s _, _, h => by simp only [jN] at h ⊢; exact h
  | .i _, _, h => by simp only [jN] at h ⊢; exact h
  | .t l, _, h => by
    simp only [jN] at h ⊢;obtain ⟨p, vs, e, h1, h2⟩ := h;exact ⟨p, vs, e, m _ _ h1, yi.mono m h2⟩
theorem yi.mono {H H' : Hp} (m : ∀ b xs, H b = some (.tup xs) → H' b = some (.tup xs)) : ∀ {l : Trs} {vs : List V}, yi H l vs → yi H' l vs
  | .nil, _, h => by simp only [yi] at h ⊢; exact h
  | .cons a r, _, h => by
    simp only [yi] at h ⊢;obtain ⟨v, ws, e, h1, h2⟩ := h;exact ⟨v, ws, e, jN.mono m h1, yi.mono m h2⟩
end
theorem jN.same {H H' : Hp} {t : Tr} {v : V} (h : jN H t v) (e : zM H H') : jN H' t v := h.mono fun b xs z => e _ _ z
theorem yi.len {H : Hp} : ∀ {l : Trs} {vs : List V}, yi H l vs → vs.length = l.list.length
  | .nil, _, h => by simp only [yi] at h; rw [h]; rfl
  | .cons a r, _, h => by
    simp only [yi] at h;obtain ⟨v, ws, rfl, _, h2⟩ := h;have := yi.len h2;simp only [Trs.list, List.length_cons, this]
theorem yi.get {H : Hp} : ∀ {l : Trs} {vs : List V} {k : Nat} {t : Tr}, yi H l vs → l.list[k]? = some t → ∃ v, vs[k]? = some v ∧ jN H t v
  | .nil, _, _, _, h, e => by simp [Trs.list] at e
  | .cons a r, _, 0, t, h, e => by
    simp only [yi] at h;obtain ⟨v, ws, rfl, h1, _⟩ := h;have e' : some a = some t := e;cases e';exact ⟨v, rfl, h1⟩
  | .cons a r, _, k + 1, t, h, e => by
    simp only [yi] at h;obtain ⟨v, ws, rfl, _, h2⟩ := h;exact yi.get (k := k) h2 e
theorem Trs.sum_size : ∀ l : Trs, (l.list.map Tr.size).sum = l.size
  | .nil => rfl
  | .cons a r => by
    simp only [Trs.list, List.map_cons, List.sum_cons, Trs.size, Trs.sum_size r]
theorem Tr.pos : ∀ t : Tr, 1 ≤ t.size
  | .s _ => by simp [Tr.size]
  | .i _ => by simp [Tr.size]
  | .t l => by simp only [Tr.size]; omega
abbrev It4 := Addr × V × V × Tr
def sz4 (its : List It4) : Nat := (its.map fun it => it.2.2.2.size).sum
theorem z78 (its : List It4) : its.length ≤ sz4 its := by
  unfold sz4
  induction its with
  | nil => exact Nat.le_refl _
  | cons a r ih =>
    rw [List.map_cons, List.sum_cons, List.length_cons];have := Tr.pos a.2.2.2;omega
theorem z3x (its : List It4) (x : It4) : sz4 (its ++ [x]) = sz4 its + x.2.2.2.size := by
  unfold sz4;rw [List.map_append, List.sum_append];simp
def Two (H : Hp) (it : It4) : Prop := H it.1 = some (.tup [it.2.1, it.2.2.1]) ∧ jN H it.2.2.2 it.2.1 ∧ jN H it.2.2.2 it.2.2.1
theorem Two.mono {H H' : Hp} (m : ∀ b xs, H b = some (.tup xs) → H' b = some (.tup xs)) {it : It4} (h : Two H it) : Two H' it := ⟨m _ _ h.1, h.2.1.mono m, h.2.2.mono m⟩
theorem z1A {H : Hp} {l : Addr} {xs : List V} {o : HO} (h : H l = some (.lst xs)) : ∀ b ys, H b = some (.tup ys) → upd H l o b = some (.tup ys) := fun b ys e => by
  rw [zO (z8i e h (by intro z; cases z))];exact e
def z61 (K : PySem.W.Frag) : Sp := fun vs H Q _ => ∃ (x y : V) (t : Tr), vs = [x, y] ∧ jN H t x ∧ jN H t y ∧ t.size ≤ 900000 ∧ ∀ H', zM H H' → Q (.bl true) H'
theorem z04 : FnScope ["_law_found", "_law_due", "_law_todo", "_law_pair", "_law_k"] ["_law_found", "_law_due"] (zv kx) := ⟨rfl, rfl, rfl, by decide +kernel, rfl, by decide +kernel, by decide +kernel⟩
theorem z4H (F : Fun K "_law_like" "_law_like" kx f fd) (T : Txt K mg) (C_law_whole : Kn P w K mg base 1 "_law_whole" ["_law_found"] z4P) : FnOk P w K mg base CX0 2 f fd ["_law_found", "_law_due"] (z61 K) := by
  refine F.ok z04 (fun vs H Q E h => ?_) (fun cdv A outer s H vs Q E hr h => ?_)
  · obtain ⟨x, y, t, rfl, _⟩ := h
    rfl
  obtain ⟨x, y, t, rfl, hx, hy, hsz, q⟩ := h;have hu := z6Z hr;refine ⟨_, (zj (zu (i := 2) z04.nd rfl (Or.inl rfl) (zV (zS (zJ (zl (pv 0) (zl (pv 1) zi))) zi)))
    (zj (z5L PassesOwn.never (zG (z8t hu) (pv 2) (zV zi) (zN _))
      (zj (zu (i := 3) z04.nd rfl (Or.inl rfl) (z60 PySem.F.plainAttrs_list PySem.F.slot_list_pop PySem.F.type_list_pop z87 (pv 2)))
      (zq (jc (yU (zI yA rfl T.isinstance PyProof.Rows.boot_isinstance (zF (zw zx (pv 3) zd (fun _ _ => rfl)) (zl (z0l (v := .ty "tuple") rfl T.tuple PyProof.Rows.boot_tuple rfl) zi))))
        (zj (jc (z2c (z2s (yU (zI yA rfl T.isinstance PyProof.Rows.boot_isinstance (zF (zw zx (pv 3) zd (fun _ _ => rfl)) (zl (z0l (v := .ty "tuple") rfl T.tuple PyProof.Rows.boot_tuple rfl) zi))))) (zG z34 (zI zK rfl T.len PySem.boot_len (zF (zw zx (pv 3) zd (fun _ _ => rfl)) zi)) (zI zK rfl T.len PySem.boot_len (zF (zw zx (pv 3) zd (fun _ _ => rfl)) zi)) (zN _)))
          (zq (zR z0V))
          zQ)
        (zq (z02 PassesOwn.never rfl (kd rfl T.range (ya (zI zK rfl T.len PySem.boot_len (zF (zw zx (pv 3) zd (fun _ _ => rfl)) zi)) zi)) (yQ (i := 4) z04.nd rfl (Or.inl rfl))
          (zq (kW (jZ PySem.F.plainAttrs_list PySem.F.slot_list_append PySem.F.type_list_append yK (pv 2) (zS (zJ (zF (zw zx (zw zx (pv 3) zd (fun _ _ => rfl)) (pv 4) (fun _ _ => rfl)) (zF (zw zx (zw zx (pv 3) zd (fun _ _ => rfl)) (pv 4) (fun _ _ => rfl)) zi))) zi)))))))
        (zq (jc (yU (zI yA rfl T.isinstance PyProof.Rows.boot_isinstance (zF (zw zx (pv 3) zd (fun _ _ => rfl)) (zl (z0l (v := .ty "str") rfl T.str PyProof.Rows.boot_str rfl) zi))))
          (zq (jc (z2c (z2s (yU (zI yA rfl T.isinstance PyProof.Rows.boot_isinstance (zF (zw zx (pv 3) zd (fun _ _ => rfl)) (zl (z0l (v := .ty "str") rfl T.str PyProof.Rows.boot_str rfl) zi))))) (zG z34 (zw zx (pv 3) zd (fun _ _ => rfl)) (zw zx (pv 3) zd (fun _ _ => rfl)) (zN _)))
            (zq (zR z0V))
            zQ))
          (zq (jc (z2c (z2s (yU (zX C_law_whole hr.m rfl (zF (zw zx (pv 3) zd (fun _ _ => rfl)) zi)))) (zG z34 (zw zx (pv 3) zd (fun _ _ => rfl)) (zw zx (pv 3) zd (fun _ _ => rfl)) (zN _)))
            (zq (zR z0V))
            zQ))))))))
    (zq (zR z0V)))), ?_⟩
  refine ⟨_, rfl, _, rfl, zt (by show 2 ≤ _; decide), fun pa hpa => ?_⟩;refine zc (upd _ pa _) rfl hpa fun H1 n1 x1 => ?_
  refine ⟨zt (by show 1 ≤ _; decide), fun tp htp => ?_⟩;have ftp : H tp = none := n1.free htp;refine zc (upd _ tp _) rfl htp fun H2 n2 x2 => ?_
  have s2 := n1.trans n2;refine z7g (fun m σ H' => ∃ (its : List It4) (o3 o4 : Option V), m = sz4 its ∧ σ = [some x, some y, some (.ref tp), o3, o4] ∧ zM H H' ∧ H' tp = some (.lst (its.map fun it => V.ref it.1)) ∧ (∀ it ∈ its, Two H' it) ∧ sz4 its ≤ 900000) (sz4 [(pa, x, y, t)]) ⟨[(pa, x, y, t)], none, none, rfl, rfl, s2, x2, fun it m => by rw [List.mem_singleton.mp m]; exact ⟨n2 _ _ x1, hx.same s2, hy.same s2⟩, by show (List.map _ [_]).sum ≤ _; simpa using hsz⟩ ?_;rintro m σ H3 ⟨its, o3, o4, rfl, rfl, s3, h3, hit, hz⟩;refine ⟨_, rfl, zt (by show 0 ≤ _; decide), fun ep hep => ?_⟩;have nep : ep ≠ tp := (zy h3 hep).symm;refine zc (upd _ ep _) rfl hep fun H4 n4 x4 => ?_
  have h4 := n4 _ _ h3;have s4 := s3.trans n4;refine ⟨tp, ep, _, rfl, rfl, SqL.of h4, SqL.of x4, _, rfl, ?_⟩;refine yu (fun c => ?_) (fun c => ?_)
  · refine ⟨_, fun σ' H' z => z, ?_⟩;have hne : its ≠ [] := fun z => by rw [z] at c; simp at c
    obtain ⟨gs, g, rfl⟩ := z1j hne;obtain ⟨ga, gx, gy, gt⟩ := g;rw [z3x] at hz;have e0 : ((gs ++ [(ga, gx, gy, gt)]).map fun it => V.ref it.1) = (gs.map fun it => V.ref it.1) ++ [V.ref ga] := by rw [List.map_append]; rfl
    rw [e0] at h4;refine ⟨_, rfl, .inl ⟨rfl, _, SqL.of h4⟩, tp, _, V.ref ga, rfl, rfl, h4, z79 _ _, ?_⟩;rw [List.dropLast_concat];have tm := z1A (o := .lst (gs.map fun it => V.ref it.1)) h4;have hit5 : ∀ it ∈ gs ++ [(ga, gx, gy, gt)], Two (upd H4 tp (.lst (gs.map fun it => V.ref it.1))) it := fun it mm => ((hit it mm).mono fun b xs z => n4 _ _ z).mono tm
    have s5 : zM H (upd H4 tp (.lst (gs.map fun it => V.ref it.1))) := s4.put ftp;have h5 : upd H4 tp (.lst (gs.map fun it => V.ref it.1)) tp = some (.lst (gs.map fun it => V.ref it.1)) := zU;generalize upd H4 tp (.lst (gs.map fun it => V.ref it.1)) = H5 at hit5 s5 h5 ⊢;have g5 : Two H5 (ga, gx, gy, gt) := hit5 _ (List.mem_append_right _ (List.mem_singleton.mpr rfl));obtain ⟨gp, gx5, gy5⟩ := g5;replace gp : H5 ga = some (.tup [gx, gy]) := gp;replace gx5 : jN H5 gt gx := gx5;replace gy5 : jN H5 gt gy := gy5;have hgs : ∀ it ∈ gs, Two H5 it := fun it mm => hit5 it (List.mem_append_left _ mm)
    have lz : sz4 (gs ++ [(ga, gx, gy, gt)]) = sz4 gs + gt.size := z3x _ _;replace hz : sz4 gs + gt.size ≤ 900000 := hz;cases gt with
    | s z =>
      simp only [jN] at gx5 gy5;subst gx5 gy5;refine ⟨_, rfl, ga, _, _, _, rfl, rfl, SqT.of gp, yE, _, _, _, _, rfl, TyOf.str z, z1E, _, rfl, ?_⟩;refine ifF rfl ?_;refine ⟨_, rfl, ga, _, _, _, rfl, rfl, SqT.of gp, yE, _, _, _, _, rfl, TyOf.str z, z0i, _, rfl, ?_⟩;refine ifT rfl ?_;refine ⟨_, rfl, ga, _, _, _, rfl, rfl, SqT.of gp, yc, _, _, _, _, rfl, TyOf.str z, z0i, _, rfl, _, ⟨_, rfl, ga, _, _, _, rfl, rfl, SqT.of gp, yc, _, rfl, ga, _, _, _, rfl, rfl, SqT.of gp, yE, rfl, _, rfl, rfl, rfl⟩, ?_⟩;refine ifF (by simp) ?_;exact ⟨_, by rw [lz]; simp only [Tr.size]; omega, gs, _, _, rfl, rfl, s5, h5, hgs, by omega⟩
    | i z =>
      simp only [jN] at gx5 gy5;subst gx5 gy5;refine ⟨_, rfl, ga, _, _, _, rfl, rfl, SqT.of gp, yE, _, _, _, _, rfl, TyOf.int z, z3S, _, rfl, ?_⟩;refine ifF rfl ?_;refine ⟨_, rfl, ga, _, _, _, rfl, rfl, SqT.of gp, yE, _, _, _, _, rfl, TyOf.int z, z2D, _, rfl, ?_⟩;refine ifF rfl ?_;refine ⟨_, rfl, ga, _, _, _, rfl, rfl, SqT.of gp, yc, z, rfl, _, rfl, _, ⟨_, rfl, ga, _, _, _, rfl, rfl, SqT.of gp, yc, _, rfl, ga, _, _, _, rfl, rfl, SqT.of gp, yE, rfl, _, rfl, rfl, rfl⟩, ?_⟩;refine ifF (by simp) ?_;exact ⟨_, by rw [lz]; simp only [Tr.size]; omega, gs, _, _, rfl, rfl, s5, h5, hgs, by omega⟩
    | t l =>
      simp only [jN] at gx5 gy5;obtain ⟨xp, xs, rfl, hxp, hxs⟩ := gx5;obtain ⟨yp, ys, rfl, hyp, hys⟩ := gy5;have lx := hxs.len;have ly := hys.len;have ll : l.list.length ≤ l.size := by
        rw [← Trs.sum_size];have : ∀ L : List Tr, L.length ≤ (L.map Tr.size).sum := fun L => by
          induction L with
          | nil => exact Nat.le_refl _
          | cons a r ih =>
            rw [List.map_cons, List.sum_cons, List.length_cons];have := Tr.pos a;omega
        exact this _
      have hz' : sz4 gs + (1 + l.size) ≤ 900000 := by simp only [Tr.size] at hz; exact hz
      refine ⟨_, rfl, ga, _, _, _, rfl, rfl, SqT.of gp, yE, _, _, _, _, rfl, TyOf.tup hyp, z0i, _, rfl, ?_⟩;refine ifT rfl ?_;refine ⟨_, rfl, ga, _, _, _, rfl, rfl, SqT.of gp, yc, _, _, _, _, rfl, TyOf.tup hxp, z0i, _, rfl, _, ⟨_, rfl, ga, _, _, _, rfl, rfl, SqT.of gp, yc, xp, _, rfl, .inr (SqT.of hxp), _, rfl, ga, _, _, _, rfl, rfl, SqT.of gp, yE, yp, _, rfl, .inr (SqT.of hyp), rfl, _, rfl, rfl, rfl⟩, ?_⟩;refine ifF (by rw [lx, ly]; simp) ?_;refine ⟨_, rfl, ga, _, _, _, rfl, rfl, SqT.of gp, yE, yp, _, rfl, .inr (SqT.of hyp), _, rfl, by omega, by omega, z0F (lo := 0) (n := ys.length) (fun i σ H' => ∃ (cs : List It4) (o4 : Option V), σ = [some x, some y, some (.ref tp), some (.ref ga), o4] ∧ zM H H' ∧ H' tp = some (.lst ((gs ++ cs).map fun it => V.ref it.1)) ∧ (∀ it ∈ gs ++ cs, Two H' it) ∧ cs.length = i ∧ sz4 cs = ((l.list.take i).map Tr.size).sum ∧
        H' ga = some (.tup [.ref xp, .ref yp]) ∧ H' xp = some (.tup xs) ∧ H' yp = some (.tup ys) ∧ yi H' l xs ∧ yi H' l ys) ⟨[], o4, rfl, s5, by rw [List.append_nil]; exact h5, by rw [List.append_nil]; exact hgs, rfl, rfl, gp, hxp, hyp, hxs, hys⟩ ?_ ?_⟩
      · rintro i σ H6 hi ⟨cs, o4, rfl, s6, h6, hit6, lc, szc, gp6, hxp6, hyp6, hxs6, hys6⟩;have hil : i < l.list.length := by omega
        have et := List.getElem?_eq_getElem hil;obtain ⟨vx, ex, tx⟩ := hxs6.get et;obtain ⟨vy, ey, ty⟩ := hys6.get et;have at1 : atI xs (0 + (i : Int)) = some vx := by rw [Int.zero_add]; exact jr ex
        have at2 : atI ys (0 + (i : Int)) = some vy := by rw [Int.zero_add]; exact jr ey
        refine ⟨_, rfl, .inl ⟨rfl, _, SqL.of h6⟩, _, rfl, ga, _, _, _, rfl, rfl, SqT.of gp6, yc, _, rfl, xp, _, _, _, rfl, rfl, SqT.of hxp6, at1, _, rfl, ga, _, _, _, rfl, rfl, SqT.of gp6, yE, _, rfl, yp, _, _, _, rfl, rfl, SqT.of hyp6, at2, zt (by show 2 ≤ _; decide), fun np hnp => ?_⟩;refine zc (upd _ np _) rfl hnp fun H7 n7 x7 => ?_
        have h7 := n7 _ _ h6;have tm7 := z1A (o := .lst (((gs ++ cs).map fun it => V.ref it.1) ++ [V.ref np])) h7;have m67 : ∀ b ws, H6 b = some (.tup ws) → upd H7 tp (.lst (((gs ++ cs).map fun it => V.ref it.1) ++ [V.ref np])) b = some (.tup ws) := fun b ws z => tm7 b ws (n7 _ _ z)
        have szs : sz4 cs ≤ l.size := by
          rw [szc, ← Trs.sum_size];have e2 : (l.list.map Tr.size).sum = ((l.list.take i).map Tr.size).sum + ((l.list.drop i).map Tr.size).sum := by rw [← List.sum_append, ← List.map_append, List.take_append_drop]
          omega
        have l1 := z78 gs;have l2 := z78 cs;refine ⟨tp, _, _, rfl, rfl, h7, jj (by rw [List.length_map, List.length_append]; omega), ?_⟩;refine ⟨cs ++ [(np, vx, vy, l.list[i])], _, rfl, (s6.trans n7).put ftp, by rw [zU]; simp, fun it mm => ?_, by rw [List.length_append, lc]; rfl, ?_, m67 _ _ gp6, m67 _ _ hxp6, m67 _ _ hyp6, hxs6.mono m67, hys6.mono m67⟩
        · rw [← List.append_assoc] at mm;rcases List.mem_append.mp mm with mm | mm
          · exact (hit6 it mm).mono m67
          · rw [List.mem_singleton.mp mm];exact ⟨tm7 _ _ x7, tx.mono m67, ty.mono m67⟩
        · rw [z3x, szc, List.take_add_one, et, List.map_append, List.sum_append];simp
      · rintro σ H6 ⟨cs, o4, rfl, s6, h6, hit6, lc, szc, _⟩;rw [ly, List.take_length, Trs.sum_size] at szc;have e3 : sz4 (gs ++ cs) = sz4 gs + sz4 cs := by unfold sz4; rw [List.map_append, List.sum_append]
        refine ⟨_, ?_, gs ++ cs, _, _, rfl, rfl, s6, h6, hit6, by omega⟩;rw [lz, e3, szc];simp only [Tr.size];omega
  · exact q _ s4

def lowers : Str := "abcdefghijklmnopqrstuvwxyz"
def z1B : Str := "0123456789"
def questions : List (Str × List Str) := [("pick", ["condition", "question"]), ("pair", ["question", "question"]), ("join", ["name", "name", "question", "question"]), ("group", ["name", "name", "name", "name", "question"]), ("sort", ["name", "question"]), ("first", ["size", "question"]), ("both", ["question", "question"])]
def conditions : List (Str × List Str) := [("less", ["side", "side"]), ("same", ["side", "side"]), ("not", ["condition"]), ("and", ["condition", "condition"]), ("or", ["condition", "condition"])]
structure TxtR (K : PySem.W.Frag) (mg : Str → Option Value) : Prop where
  letters : ∃ t, mg "LETTERS" = some (.str lowers t)
  figures : ∃ t, mg "FIGURES" = some (.str z1B t)
  questions : ∃ a, mg "QUESTIONS" = some (.ref a) ∧ z5P K a questions
  conditions : ∃ a, mg "CONDITIONS" = some (.ref a) ∧ z5P K a conditions
theorem z6B : ("" : Str) = Str.empty := by decide +kernel
def zZ (x : Str) : Bool := (!decide (x = "")) && x.cps.toList.all fun c => lowers.cps.contains c
def z6w : Sp := fun vs H Q _ => ∃ x : Str, vs = [.str x] ∧ x.length ≤ sizeLine ∧ Q (.bl (zZ x)) H
theorem z6j : FnScope ["text"] ["text"] (zv z07) := ⟨rfl, rfl, rfl, by decide +kernel, rfl, by decide +kernel, by decide +kernel⟩
theorem z63 (F : Fun K "is_name" "is_name" z07 f fd) (T : Txt K mg) (R : TxtR K mg) : FnOk P w K mg base CX0 1 f fd ["text"] z6w := by
  refine F.ok z6j (fun vs H Q E h => ?_) (fun cdv A outer s H vs Q E hr h => ?_)
  · obtain ⟨x, rfl, _⟩ := h
    rfl
  obtain ⟨x, rfl, hx, q⟩ := h;obtain ⟨tL, hL⟩ := R.letters;refine ⟨_, (zq (zR (z8X (kT z34 (pv 0) zm (zN _)) (z6M (kT jm (jZ PySem.F.plainAttrs_str PySem.F.slot_str_strip PySem.F.type_str_strip z5f (pv 0) (zl (kr (v := .str lowers) rfl hL ⟨_, rfl⟩) zi)) zm (zN _)))))), ?_⟩;refine ⟨_, rfl, rfl, _, rfl, ?_⟩;unfold zZ at q;by_cases he : x = ""
  · rw [decide_eq_true he] at q;refine ifF (by rw [jd, decide_eq_true he]; rfl) ?_;exact q
  · rw [decide_eq_false he] at q;refine ifT (by rw [jd, decide_eq_false he]; rfl) ?_;refine ⟨_, rfl, rfl, _, _, rfl, rfl, hx, rfl, ?_⟩;rw [jd, z6B, z3F];exact q
def jw (x : Str) : Str := if Txt.startswith x "-" = true then Txt.slice x (some 1) none else x
def kO (x fg : Str) : Bool := if (decide (fg = "") || !(fg.cps.toList.all fun c => z1B.cps.contains c)) = true then false else decide (x = "0") || !decide (fg.cps.toList.head? = some 48)
def jK (x : Str) : Bool := kO x (jw x)
theorem z6L (x : Str) : (jw x).length ≤ x.length := by
  unfold jw;split
  · exact Txt.slice_le x _ _
  · exact Nat.le_refl _
def z3C : Sp := fun vs H Q _ => ∃ x : Str, vs = [.str x] ∧ x.length ≤ sizeLine ∧ Q (.bl (jK x)) H
theorem zero_eq : ("0" : Str) = ⟨#[48]⟩ := by decide +kernel
theorem z1Y : ("-" : Str) = ⟨#[45]⟩ := by decide +kernel
theorem z1U : FnScope ["text", "figures"] ["text"] (zv ky) := ⟨rfl, rfl, rfl, by decide +kernel, rfl, by decide +kernel, by decide +kernel⟩
theorem z4N (F : Fun K "is_number" "is_number" ky f fd) (T : Txt K mg) (R : TxtR K mg) : FnOk P w K mg base CX0 1 f fd ["text"] z3C := by
  refine F.ok z1U (fun vs H Q E h => ?_) (fun cdv A outer s H vs Q E hr h => ?_)
  · obtain ⟨x, rfl, _⟩ := h
    rfl
  obtain ⟨x, rfl, hx, q⟩ := h;obtain ⟨tF, hF⟩ := R.figures;have hfl := z6L x;refine ⟨_, (zj (zu (i := 1) z1U.nd rfl (Or.inl rfl) (z3i (yU (jZ PySem.F.plainAttrs_str PySem.F.slot_str_startswith PySem.F.type_str_startswith kS (pv 0) (zn zm zi))) (jh z3D (pv 0) (jq zd) jF) (pv 0)))
    (zj (jc (z2c (zG jm (pv 1) zm (zN _)) (zG z34 (jZ PySem.F.plainAttrs_str PySem.F.slot_str_strip PySem.F.type_str_strip z5f (pv 1) (zl (kr (v := .str z1B) rfl hF ⟨_, rfl⟩) zi)) zm (zN _)))
      (zq (zR z0V))
      zQ)
    (zq (zR (zbj (kT jm (pv 0) zm (zN _)) (z6M (kT z34 (zw z8N (pv 1) zd (fun _ _ => rfl)) zm (zN _)))))))), ?_⟩
  refine ⟨_, rfl, rfl, _, _, rfl, rfl, _, rfl, ?_⟩;by_cases hs : Txt.startswith x "-" = true
  · refine ifT hs ?_;have q1 : Q (.bl (kO x (Txt.slice x (some 1) none))) H := by
      unfold jK jw at q;rw [if_pos hs] at q;exact q
    have hl1 : (Txt.slice x (some 1) none).length ≤ sizeLine := Nat.le_trans (Txt.slice_le x _ _) hx;refine ⟨_, rfl, _, rfl, x, rfl, hx, ?_⟩;generalize Txt.slice x (some 1) none = fg at q1 hl1 ⊢;refine ⟨_, rfl, rfl, _, rfl, _, ⟨_, rfl, rfl, _, _, rfl, rfl, hl1, rfl, _, rfl, rfl, rfl⟩, ?_⟩;have e1 : (decide (V.str fg = V.str "") || !decide (V.str (Txt.stripChars fg z1B) = V.str "")) = (decide (fg = "") || !(fg.cps.toList.all fun c => z1B.cps.contains c)) := by
      rw [jd, jd, z6B, z3F]
    rw [e1];unfold kO at q1;by_cases hb : (decide (fg = "") || !(fg.cps.toList.all fun c => z1B.cps.contains c)) = true
    · rw [if_pos hb] at q1;exact ifT hb q1
    · rw [if_neg hb] at q1;refine ifF (by simpa using hb) ?_;refine ⟨_, rfl, rfl, _, rfl, ?_⟩;by_cases h0 : x = "0"
      · rw [decide_eq_true h0, Bool.true_or] at q1;exact ifT (by rw [jd, decide_eq_true h0]) q1
      · rw [decide_eq_false h0, Bool.false_or] at q1;refine ifF (by rw [jd, decide_eq_false h0]) ?_;have hne : fg.cps.toList ≠ [] := fun e => hb (by
          rw [decide_eq_true (yS e : fg = ""), Bool.true_or])
        obtain ⟨c, r, ecr⟩ : ∃ c r, fg.cps.toList = c :: r := by
          cases q : fg.cps.toList with
          | nil => exact absurd q hne
          | cons c r => exact ⟨c, r, rfl⟩
        refine ⟨_, rfl, _, _, c, rfl, rfl, hl1, by rw [ecr]; exact yc, rfl, ?_⟩;rw [jd, zero_eq];have e2 : decide ((⟨#[c]⟩ : Str) = ⟨#[48]⟩) = decide (fg.cps.toList.head? = some 48) := by
          rw [ecr, Bool.eq_iff_iff];simp
        rw [e2];exact q1
  · refine ifF (by simpa using hs) ?_;have q1 : Q (.bl (kO x x)) H := by
      unfold jK jw at q;rw [if_neg hs] at q;exact q
    have hl1 := hx;refine ⟨_, rfl, ?_⟩;refine ⟨_, rfl, rfl, _, rfl, _, ⟨_, rfl, rfl, _, _, rfl, rfl, hl1, rfl, _, rfl, rfl, rfl⟩, ?_⟩;have e1 : (decide (V.str x = V.str "") || !decide (V.str (Txt.stripChars x z1B) = V.str "")) = (decide (x = "") || !(x.cps.toList.all fun c => z1B.cps.contains c)) := by
      rw [jd, jd, z6B, z3F]
    rw [e1];unfold kO at q1;by_cases hb : (decide (x = "") || !(x.cps.toList.all fun c => z1B.cps.contains c)) = true
    · rw [if_pos hb] at q1;exact ifT hb q1
    · rw [if_neg hb] at q1;refine ifF (by simpa using hb) ?_;refine ⟨_, rfl, rfl, _, rfl, ?_⟩;by_cases h0 : x = "0"
      · rw [decide_eq_true h0, Bool.true_or] at q1;exact ifT (by rw [jd, decide_eq_true h0]) q1
      · rw [decide_eq_false h0, Bool.false_or] at q1;refine ifF (by rw [jd, decide_eq_false h0]) ?_;have hne : x.cps.toList ≠ [] := fun e => hb (by
          rw [decide_eq_true (yS e : x = ""), Bool.true_or])
        obtain ⟨c, r, ecr⟩ : ∃ c r, x.cps.toList = c :: r := by
          cases q : x.cps.toList with
          | nil => exact absurd q hne
          | cons c r => exact ⟨c, r, rfl⟩
        refine ⟨_, rfl, _, _, c, rfl, rfl, hl1, by rw [ecr]; exact yc, rfl, ?_⟩;rw [jd, zero_eq];have e2 : decide ((⟨#[c]⟩ : Str) = ⟨#[48]⟩) = decide (x.cps.toList.head? = some 48) := by
          rw [ecr, Bool.eq_iff_iff];simp
        rw [e2];exact q1

def z0q (l : List Nat) : Nat := l.foldl (fun acc c => acc * 10 + (c - 48)) 0
def z1w (x : Str) : Int := if Txt.startswith x "-" = true then -((z0q (jw x).cps.toList : Nat) : Int) else ((z0q (jw x).cps.toList : Nat) : Int)
theorem z9F : ∀ c : Nat, z1B.cps.contains c = true → 48 ≤ c ∧ c ≤ 57 := by
  intro c h;have h2 : c ∈ z1B.cps.toList := by simpa using h
  have h3 : z1B.cps.toList = [48, 49, 50, 51, 52, 53, 54, 55, 56, 57] := by decide +kernel
  rw [h3] at h2;simp only [List.mem_cons, List.not_mem_nil, or_false] at h2;omega
theorem z2C {x : Str} (h : jK x = true) : jw x ≠ "" ∧ (∀ c ∈ (jw x).cps.toList, 48 ≤ c ∧ c ≤ 57) ∧ (x = "0" ∨ (jw x).cps.toList.head? ≠ some 48) := by
  unfold jK kO at h;by_cases hb : (decide (jw x = "") || !((jw x).cps.toList.all fun c => z1B.cps.contains c)) = true
  · rw [if_pos hb] at h;cases h
  · rw [if_neg hb] at h;simp only [Bool.or_eq_true, decide_eq_true_eq, Bool.not_eq_true', not_or, Bool.not_eq_false] at hb;refine ⟨hb.1, fun c hc => z9F c (List.all_eq_true.mp hb.2 c hc), ?_⟩
    simpa using h
theorem z5V {x : Str} (h : jK x = true) : Txt.lstripChars x "-" = jw x := by
  obtain ⟨h1, h2, _⟩ := z2C h;have hm : ∀ c : Nat, (("-" : Str).cps.contains c) = decide (c = 45) := by
    intro c;rw [z1Y];simp
  have hb : ∀ {b : List Nat}, (∀ c ∈ b, 48 ≤ c ∧ c ≤ 57) → ∀ c, b.head? = some c → (("-" : Str).cps.contains c) = false := fun hb c hc => by
    have := hb c (List.mem_of_mem_head? hc);rw [hm];simp;omega
  by_cases hs : Txt.startswith x "-" = true
  · rw [z1Y, kC] at hs;have hh := of_decide_eq_true hs;cases q : x.cps.toList with
    | nil => rw [q] at hh; cases hh
    | cons c r =>
      rw [q] at hh;have e : c = 45 := Option.some.inj hh;subst e;have ef : jw x = tx r := by
        unfold jw;rw [z1Y, kC, if_pos (decide_eq_true (by rw [q]; rfl))];exact z1y q
      rw [ef] at h2 ⊢;exact z47 (a := [45]) (b := r) q (fun c hc => by rw [List.mem_singleton.mp hc, hm]; rfl) (hb h2)
  · have ef : jw x = x := by
      unfold jw;rw [if_neg hs]
    rw [ef] at h2 ⊢;have := z47 (g := ("-" : Str).cps.contains) (x := x) (a := []) (b := x.cps.toList) rfl (fun c hc => by cases hc) (hb h2);rw [z2W] at this;exact this
def z2h : Sp := fun vs H Q _ => ∃ x : Str, vs = [.str x] ∧ x.length ≤ sizeLine ∧ jK x = true ∧ Q (.int (z1w x)) H
theorem z5Q (l : List Nat) (c : Nat) : z0q (l ++ [c]) = z0q l * 10 + (c - 48) := by
  unfold z0q;rw [List.foldl_append]
  rfl
theorem kI : FnScope ["text", "number", "figure"] ["text"] (zv yN) := ⟨rfl, rfl, rfl, by decide +kernel, rfl, by decide +kernel, by decide +kernel⟩
theorem z3c (F : Fun K "number_from" "number_from" yN f fd) (T : Txt K mg) (R : TxtR K mg) : FnOk P w K mg base CX0 1 f fd ["text"] z2h := by
  refine F.ok kI (fun vs H Q E h => ?_) (fun cdv A outer s H vs Q E hr h => ?_)
  · obtain ⟨x, rfl, _⟩ := h
    rfl
  obtain ⟨x, rfl, hx, hn, q⟩ := h;obtain ⟨tF, hF⟩ := R.figures;have hl := z5V hn;obtain ⟨h1, h2, h3⟩ := z2C hn;refine ⟨_, (zj (zu (i := 1) kI.nd rfl (Or.inl rfl) zd)
    (zj (z02 PassesOwn.never rfl (zaW (jZ PySem.F.plainAttrs_str PySem.F.slot_str_lstrip PySem.F.type_str_lstrip z7v (pv 0) (zn zm zi))) (yQ (i := 2) kI.nd rfl (Or.inl rfl))
      (zq (zu (i := 1) kI.nd rfl (Or.inl rfl) (zr yW (zr z1H (pv 1) zd) (jZ PySem.F.plainAttrs_str PySem.F.slot_str_index PySem.F.type_str_index z7x (kr (v := .str z1B) rfl hF ⟨_, rfl⟩) (zl (pv 2) zi))))))
    (zq (zR (z3i (yU (jZ PySem.F.plainAttrs_str PySem.F.slot_str_startswith PySem.F.type_str_startswith kS (pv 0) (zn zm zi))) (z1g z0h (pv 1)) (pv 1)))))), ?_⟩
  refine ⟨_, rfl, rfl, _, _, rfl, rfl, hx, _, rfl, ?_⟩;rw [hl];refine z9S (fun i σ H' => ∃ o : Option V, σ = [some (.str x), some (.int ((z0q ((jw x).cps.toList.take i) : Nat) : Int)), o] ∧ H' = H) ⟨none, rfl, rfl⟩ ?_ ?_
  · rintro i c σ H' hc ⟨o, rfl, rfl⟩;have hc' : (jw x).cps.toList[i]? = some c := by rw [Array.getElem?_toList]; exact hc
    obtain ⟨c1, c2⟩ := h2 c (List.mem_of_getElem? hc');have ho := zav (c - 48) (by omega);rw [show 48 + (c - 48) = c by omega] at ho;refine ⟨_, rfl, _, _, rfl, rfl, .inr ⟨by decide, by decide⟩, rfl, _, rfl, _, _, _, _, rfl, rfl, ho, _, _, rfl, rfl, some (V.str ⟨#[c]⟩), ?_, rfl⟩
    show [some (V.str x), some (V.int ((z0q ((jw x).cps.toList.take i) : Nat) * 10 + ((c - 48 : Nat) : Int))), some (V.str ⟨#[c]⟩)] = _
    have e : ((z0q ((jw x).cps.toList.take (i + 1)) : Nat) : Int) = ((z0q ((jw x).cps.toList.take i) : Nat) : Int) * 10 + ((c - 48 : Nat) : Int) := by
      rw [List.take_add_one, hc']
      show ((z0q ((jw x).cps.toList.take i ++ [c]) : Nat) : Int) = _
      rw [z5Q];omega
    rw [e]
  · rintro σ H' ⟨o, rfl, rfl⟩;have e : (jw x).cps.toList.take (jw x).cps.size = (jw x).cps.toList := List.take_of_length_le (by simp);rw [e];refine ⟨_, rfl, rfl, _, _, rfl, rfl, _, rfl, ?_⟩;unfold z1w at q;by_cases hs : Txt.startswith x "-" = true
    · rw [if_pos hs] at q;refine ifT hs ?_;exact ⟨_, rfl, _, rfl, q⟩
    · rw [if_neg hs] at q;refine ifF (by simpa using hs) ?_;exact ⟨_, rfl, q⟩

def z21 (w : Str) : Str := if (tabAt conditions w).isSome = true then "condition" else "question"
def z3H (K : PySem.W.Frag) : Sp := fun vs H Q _ => ∃ (p : Addr) (w : Str) (r : List V), vs = [.ref p] ∧ H p = some (.tup (.str w :: r)) ∧ Q (.str (z21 w)) H
theorem z6h : FnScope ["part"] ["part"] (zv z0a) := ⟨rfl, rfl, rfl, by decide +kernel, rfl, by decide +kernel, by decide +kernel⟩
theorem z6E (F : Fun K "form_of" "form_of" z0a f fd) (T : Txt K mg) (R : TxtR K mg) : FnOk P w K mg base CX0 1 f fd ["part"] (z3H K) := by
  refine F.ok z6h (fun vs H Q E h => ?_) (fun cdv A outer s H vs Q E hr h => ?_)
  · obtain ⟨p, w, r, rfl, _⟩ := h
    rfl
  obtain ⟨p, w', r, rfl, hp, q⟩ := h;obtain ⟨ca, hC, tC'⟩ := R.conditions;refine ⟨_, (zq (zR (z3i (zG z2n (zw zx (pv 0) zd (fun _ _ => rfl)) (kr (v := .ref ca) rfl hC rfl) (by with_unfolding_all rfl)) zm zm))), ?_⟩;refine ⟨_, rfl, p, _, _, _, rfl, rfl, SqT.of hp, yc, _, _, _, rfl, rfl, tC', _, rfl, ?_⟩;unfold z21 at q;by_cases hs : (tabAt conditions w').isSome = true
  · rw [if_pos hs] at q;exact ifT hs q
  · rw [if_neg hs] at q;exact ifF (by simpa using hs) q
def je (form : Str) : Tr → Option Tr
  | .t (.cons (.s w) r) => if form = z21 w then some (.t (.cons (.s w) r)) else none
  | .s x => if zZ x = true then (if form = "question" then some (.t (.cons (.s "table") (.cons (.s x) .nil))) else if form = "name" ∨ form = "side" then some (.s x) else none)
    else if jK x = true then (if form = "side" ∨ (form = "size" ∧ Txt.startswith x "-" = false) then some (.i (z1w x)) else none) else none
  | _ => none
def okT : Tr → Prop
  | .s x => x.length ≤ 900000
  | .t (.cons (.s _) _) => True
  | _ => False
def noD : Ends := ⟨fun _ _ => False, fun _ _ => False, fun _ _ => False, fun _ _ => False⟩
theorem z1s {E : XK} {C : Addr} {a b y : Str} {i : Nat} {D : Ends} {σ : St} {H : Hp} (hv : σ[i]? = some (some (.str y))) (hl : y.length ≤ 1000) (ha : a.length ≤ 1000) (hb : b.length ≤ 1000) (q : E (.ref C) none H) :
    z62 E C (z0B (z8B (z9k a (zbQ (z9j i) (z9k b zb9)))) zau) D σ H := by
  have e0 : (Str.empty ++ a).length ≤ 1000 := by rw [Str.length_append, show Str.empty.length = 0 from rfl]; omega
  have e1 : (Str.empty ++ a ++ y).length ≤ 2000 := by rw [Str.length_append]; omega
  have e2 : (Str.empty ++ a ++ y ++ b).length ≤ 3000 := by rw [Str.length_append]; omega
  exact ⟨zt (by omega), _, hv, y, rfl, zt (by omega), zt (by omega), zt (by omega), zt (by omega), zt (by show 1 ≤ _; decide), q⟩
theorem z49 {E : XK} {C : Addr} {b y : Str} {i : Nat} {D : Ends} {σ : St} {H : Hp} (hv : σ[i]? = some (some (.str y))) (hl : y.length ≤ 900000) (hy : Asc y) (hb : b.length ≤ 1000) (q : E (.ref C) none H) :
    z62 E C (z0B (z8B (zbF (z9j i) (z9k b zb9))) zau) D σ H := by
  have hz : sizeLine = 16777216 := sizeLine_eq;have h1 := repr_len hy;have e1 : (Str.empty ++ reprText y).length ≤ 4 * y.length + 2 := by rw [Str.length_append, show Str.empty.length = 0 from rfl]; omega
  have e2 : (Str.empty ++ reprText y ++ b).length ≤ 4 * y.length + 1002 := by rw [Str.length_append]; omega
  exact ⟨_, hv, y, rfl, by omega, by omega, by omega, by omega, zt (by show 1 ≤ _; decide), q⟩
def z2Z (K : PySem.W.Frag) (Cq : Addr) : Sp := fun vs H Q E => ∃ (form : Str) (v : V) (t : Tr), vs = [.str form, v] ∧ jN H t v ∧ okT t ∧ form.length ≤ 1000 ∧ match je form t with
  | some t' => ∀ v' H', zM H H' → jN H' t' v' → Q v' H'
  | none => ∀ H', zM H H' → E (.ref Cq) none H'
theorem z96 : FnScope ["form", "part"] ["form", "part"] (zv z1v) := ⟨rfl, rfl, rfl, by decide +kernel, rfl, by decide +kernel, by decide +kernel⟩
theorem z8u (F : Fun K "taken" "taken" z1v f fd) (T : Txt K mg) (R : TxtR K mg) {Cq : Addr} (hNoQuestion : mg "NoQuestion" = some (.ref Cq)) (exNoQuestion : PySem.W.excIn K Cq z24 "ValueError.__new__" = true) (Cform_of : Kn P w K mg base 1 "form_of" ["part"] (z3H K)) (Cis_name : Kn P w K mg base 1 "is_name" ["text"] z6w) (Cis_number : Kn P w K mg base 1 "is_number" ["text"] z3C) (Cnumber_from : Kn P w K mg base 1 "number_from" ["text"] z2h) : FnOk P w K mg base (CXR P w) 2 f fd ["form", "part"] (z2Z K Cq) := by
  refine F.okX z96 (fun vs H Q E h => ?_) (fun cdv A outer s H vs Q E hr h => ?_)
  · obtain ⟨form, v, t, rfl, _⟩ := h
    rfl
  obtain ⟨form, v, t, rfl, ht, hok, hfl, q⟩ := h;refine ⟨_, (zj (jc (yU (zI yA rfl T.isinstance PyProof.Rows.boot_isinstance (zl (pv 1) (zl (z0l (v := .ty "tuple") rfl T.tuple PyProof.Rows.boot_tuple rfl) zi))))
      (zq (jc (zG jm (pv 0) (zX Cform_of hr.m rfl (zl (pv 1) zi)) (zN _))
        (zq (zR (pv 1)))
        zQ))
      (zq (jc (yU (zX Cis_name hr.m rfl (zl (pv 1) zi)))
        (zj (jc (zG jm (pv 0) zm (zN _))
          (zq (zR (zJ (zn zm (zl (pv 1) zi)))))
          zQ)
        (zq (jc (zG z1z (pv 0) (zJ (zn zm (zn zm zi))) (by with_unfolding_all rfl))
          (zq (zR (pv 1)))
          zQ)))
        (zq (jc (yU (zX Cis_number hr.m rfl (zl (pv 1) zi)))
          (zq (jc (z2c (zG jm (pv 0) zm (zN _)) (z1O (zG jm (pv 0) zm (zN _)) (z2s (yU (jZ PySem.F.plainAttrs_str PySem.F.slot_str_startswith PySem.F.type_str_startswith kS (pv 1) (zn zm zi))))))
            (zq (zR (zX Cnumber_from hr.m rfl (zl (pv 1) zi))))
            zQ))
          zQ)))))
    (zq (z0x z05 rfl rfl hNoQuestion exNoQuestion (yY (z4I (z52 (zaC (pv 0) (z52 z6y)))) zi)))), ?_⟩
  cases t with
  | i n => exact hok.elim
  | t l =>
    cases l with
    | nil => exact hok.elim
    | cons a r =>
      cases a with
      | i n => exact hok.elim
      | t l => exact hok.elim
      | s w' =>
        have ht0 := ht;simp only [jN, yi] at ht;obtain ⟨p, vs, rfl, hp, v0, ws, rfl, rfl, hws⟩ := ht;simp only [je] at q;refine ⟨_, rfl, _, _, _, _, rfl, TyOf.tup hp, z0i, _, rfl, ?_⟩;refine ifT rfl ?_;refine ⟨_, rfl, _, rfl, p, w', _, rfl, hp, rfl, _, rfl, ?_⟩;by_cases hf : form = z21 w'
        · rw [if_pos hf] at q;refine ifT (by rw [jd, decide_eq_true hf]) ?_;exact ⟨_, rfl, q _ _ (zM.refl _) ht0⟩
        · rw [if_neg hf] at q;refine ifF (by rw [jd, decide_eq_false hf]) ?_;exact z1s (D := noD) rfl hfl (by decide +kernel) (by decide +kernel) (q _ (zM.refl _))
  | s x =>
    simp only [jN] at ht;subst ht;have hx0 : x.length ≤ 900000 := hok;have hx : x.length ≤ sizeLine := zt (by omega);simp only [je] at q;refine ⟨_, rfl, _, _, _, _, rfl, TyOf.str x, z1E, _, rfl, ?_⟩;refine ifF rfl ?_;refine ⟨_, rfl, x, rfl, hx, _, rfl, ?_⟩;by_cases hnm : zZ x = true
    · rw [if_pos hnm] at q;refine ifT hnm ?_;refine ⟨_, rfl, rfl, _, rfl, ?_⟩;by_cases hq : form = "question"
      · rw [if_pos hq] at q;refine ifT (by rw [jd, decide_eq_true hq]) ?_;refine ⟨_, rfl, zt (by show 2 ≤ _; decide), fun p hp => ?_⟩;refine zc (upd _ p _) rfl hp fun H1 n1 x1 => ?_
        refine q _ _ n1 ?_;simp only [jN, yi];exact ⟨p, _, rfl, x1, _, _, rfl, rfl, _, _, rfl, rfl, rfl⟩
      · rw [if_neg hq] at q;refine ifF (by rw [jd, decide_eq_false hq]) ?_;refine ⟨_, rfl, zt (by show 2 ≤ _; decide), fun p hp => ?_⟩;refine zc (upd _ p _) rfl hp fun H1 n1 x1 => ?_
        refine ⟨p, _, rfl, .inr (SqT.of x1), rfl, rfl, _, rfl, ?_⟩;by_cases hns : form = "name" ∨ form = "side"
        · rw [if_pos hns] at q;refine ifT ?_ ?_
          · rcases hns with e | e <;> subst e <;> decide +kernel
          · refine ⟨_, rfl, q _ _ n1 ?_⟩;simp only [jN]
        · rw [if_neg hns] at q;refine ifF ?_ ?_
          · have h1 : ¬ form = "name" := fun e => hns (.inl e)
            have h2 : ¬ form = "side" := fun e => hns (.inr e)
            simp [inV, eqV, h1, h2, Ne.symm h1, Ne.symm h2]
          · exact z1s (D := noD) rfl hfl (by decide +kernel) (by decide +kernel) (q _ n1)
    · rw [if_neg hnm] at q;refine ifF (by simpa using hnm) ?_;refine ⟨_, rfl, x, rfl, hx, _, rfl, ?_⟩;by_cases hnu : jK x = true
      · rw [if_pos hnu] at q;refine ifT hnu ?_;refine ⟨_, rfl, rfl, _, rfl, _, ⟨_, rfl, rfl, _, rfl, _, ⟨_, rfl, rfl, _, _, rfl, rfl, _, rfl, rfl, rfl⟩, rfl, rfl⟩, ?_⟩;by_cases hc : form = "side" ∨ (form = "size" ∧ Txt.startswith x "-" = false)
        · rw [if_pos hc] at q;refine ifT ?_ ?_
          · rw [jd, jd];rcases hc with e | ⟨e, e2⟩
            · rw [decide_eq_true e, Bool.true_or]
            · rw [decide_eq_true e, e2];simp
          · refine ⟨_, rfl, x, rfl, hx, hnu, q _ _ (zM.refl _) ?_⟩;simp only [jN]
        · rw [if_neg hc] at q;refine ifF ?_ ?_
          · rw [jd, jd];have h1 : ¬ form = "side" := fun e => hc (.inl e)
            rw [decide_eq_false h1, Bool.false_or];by_cases h2 : form = "size"
            · cases h3 : Txt.startswith x "-" with
              | true => simp
              | false => exact absurd (.inr ⟨h2, h3⟩) hc
            · rw [decide_eq_false h2, Bool.false_and]
          · exact z1s (D := noD) rfl hfl (by decide +kernel) (by decide +kernel) (q _ (zM.refl _))
      · rw [if_neg hnu] at q;refine ifF (by simpa using hnu) ?_;exact z1s (D := noD) rfl hfl (by decide +kernel) (by decide +kernel) (q _ (zM.refl _))

def kw (word : Str) (n : Nat) : Option (List Str) := if word = "cols" then some (List.replicate (max (n - 1) 1) ("name" : Str) ++ [("question" : Str)]) else match tabAt questions word with
  | some fs => some fs
  | none => tabAt conditions word
def z4Z (K : PySem.W.Frag) (Cq : Addr) : Sp := fun vs H Q E => ∃ (word : Str) (n : Nat), vs = [.str word, .int ((n : Nat) : Int)] ∧ n ≤ 900000 ∧ word.length ≤ 900000 ∧ Asc word ∧ match kw word n with
  | some fs => ∀ b H', zM H H' → SqT K H' b (fs.map V.str) → Q (.ref b) H'
  | none => E (.ref Cq) none H
theorem z6U {D : List (Str × List Str)} (h : ∀ p ∈ D, p.2.length ≤ 10) {k : Str} {xs : List Str} (e : tabAt D k = some xs) : xs.length ≤ 10 := by
  unfold tabAt at e;exact h _ (PySem.mem_of_lookup e)
theorem z8a (k : Nat) (v : V) : (List.replicate k [v]).flatten = List.replicate k v := by
  induction k with
  | zero => rfl
  | succ k ih => rw [List.replicate_succ, List.flatten_cons, ih]; rfl
theorem z2T : FnScope ["word", "count"] ["word", "count"] (zv yx) := ⟨rfl, rfl, rfl, by decide +kernel, rfl, by decide +kernel, by decide +kernel⟩
theorem z2K (F : Fun K "forms_behind" "forms_behind" yx f fd) (T : Txt K mg) (R : TxtR K mg) {Cq : Addr} (hNoQuestion : mg "NoQuestion" = some (.ref Cq)) (exNoQuestion : PySem.W.excIn K Cq z24 "ValueError.__new__" = true) : FnOk P w K mg base (CXR P w) 1 f fd ["word", "count"] (z4Z K Cq) := by
  refine F.okX z2T (fun vs H Q E h => ?_) (fun cdv A outer s H vs Q E hr h => ?_)
  · obtain ⟨word, n, rfl, _⟩ := h
    rfl
  obtain ⟨word, n, rfl, hn, hwl, hwa, q⟩ := h;obtain ⟨ca, hC, tC'⟩ := R.conditions;obtain ⟨qa, hQ, tQ'⟩ := R.questions;refine ⟨_, (zj (jc (zG jm (pv 0) zm (zN _))
      (zq (zR (zr z9h (zr z9D (zJ (zn zm zi)) (zI (z4i rfl) rfl T.max PyProof.Rows.boot_max (yd (zr z14 (pv 1) zd) (zn zd zi)))) (zJ (zn zm zi)))))
      zQ)
    (zj (jc (zG z2n (pv 0) (kr (v := .ref qa) rfl hQ rfl) (by with_unfolding_all rfl))
      (zq (zR (zw z8e (kr (v := .ref qa) rfl hQ rfl) (pv 0) (fun _ _ => rfl))))
      zQ)
    (zj (jc (zG z2n (pv 0) (kr (v := .ref ca) rfl hC rfl) (by with_unfolding_all rfl))
      (zq (zR (zw z8e (kr (v := .ref ca) rfl hC rfl) (pv 0) (fun _ _ => rfl))))
      zQ)
    (zq (z0x z05 rfl rfl hNoQuestion exNoQuestion (yY (z4I (z8M (pv 0) (z52 z6y))) zi)))))), ?_⟩
  unfold kw at q;refine ⟨_, rfl, rfl, _, rfl, ?_⟩;by_cases hw : word = "cols"
  · rw [if_pos hw] at q;refine ifT (by rw [jd, decide_eq_true hw]) ?_;refine ⟨zt (by show 1 ≤ _; decide), fun p1 hp1 => ?_⟩;refine zc (upd _ p1 _) rfl hp1 fun H1 n1 x1 => ?_
    refine ⟨_, rfl, _, _, rfl, rfl, _, _, rfl, ?_⟩;have ek : (if (1 : Int) > (n : Int) - 1 then (1 : Int) else (n : Int) - 1) = ((max (n - 1) 1 : Nat) : Int) := by
      split <;> omega
    rw [ek];have hk1 : 1 ≤ max (n - 1) 1 := Nat.le_max_right _ _;have hk2 : max (n - 1) 1 ≤ 900001 := by omega
    generalize max (n - 1) 1 = k at hk1 hk2 q ⊢;refine ⟨p1, _, _, rfl, rfl, SqT.of x1, by simp, by omega, zt (by show 1 * _ ≤ _; omega), fun e1 => ?_, fun e1 p2 hp2 => ?_⟩
    · have ek1 : k = 1 := by omega
      subst ek1;refine ⟨zt (by show 1 ≤ _; decide), fun p3 hp3 => ?_⟩;refine zc (upd _ p3 _) rfl hp3 fun H3 n3 x3 => ?_
      refine ⟨p1, p3, _, _, rfl, rfl, SqT.of (n3 _ _ x1), SqT.of x3, by simp, zt (by show 1 + 1 ≤ _; decide), fun z => absurd z (by simp), fun _ p4 hp4 => ?_⟩;refine zc (upd _ p4 _) rfl hp4 fun H4 n4 x4 => ?_
      exact q p4 H4 (n1.trans (n3.trans n4)) (SqT.of x4)
    · rw [show ((k : Nat) : Int).toNat = k by omega, z8a] at *;refine zc (upd _ p2 _) rfl hp2 fun H2 n2 x2 => ?_
      refine ⟨zt (by show 1 ≤ _; decide), fun p3 hp3 => ?_⟩;refine zc (upd _ p3 _) rfl hp3 fun H3 n3 x3 => ?_
      refine ⟨p2, p3, _, _, rfl, rfl, SqT.of (n3 _ _ x2), SqT.of x3, ?_, zt ?_, fun z => absurd z (by simp), fun _ p4 hp4 => ?_⟩
      · intro e;have := congrArg List.length e;rw [List.length_replicate] at this;simp at this;omega
      · rw [List.length_replicate]
        show k + 1 ≤ _
        omega
      refine zc (upd _ p4 _) rfl hp4 fun H4 n4 x4 => ?_
      refine q p4 H4 (n1.trans (n2.trans (n3.trans n4))) (SqT.of ?_);rw [x4, List.map_append, List.map_replicate]
      rfl
  · rw [if_neg hw] at q;refine ifF (by rw [jd, decide_eq_false hw]) ?_;refine ⟨_, rfl, _, _, _, rfl, rfl, tQ', _, rfl, ?_⟩;cases e1 : tabAt questions word with
    | some xs =>
      rw [e1] at q;refine ifT rfl ?_;have hl := z6U (D := questions) (by decide +kernel) e1;refine ⟨_, rfl, _, _, _, _, rfl, rfl, tQ', e1, zt (by omega), fun b hb => q b H (zM.refl _) hb⟩
    | none =>
      rw [e1] at q;refine ifF rfl ?_;refine ⟨_, rfl, _, _, _, rfl, rfl, tC', _, rfl, ?_⟩;cases e2 : tabAt conditions word with
      | some xs =>
        have q2 : ∀ b H', zM H H' → SqT K H' b (xs.map V.str) → Q (.ref b) H' := by
          have q3 := q;simp only [e2] at q3;exact q3
        refine ifT rfl ?_;have hl := z6U (D := conditions) (by decide +kernel) e2;exact ⟨_, rfl, _, _, _, _, rfl, rfl, tC', e2, zt (by omega), fun b hb => q2 b H (zM.refl _) hb⟩
      | none =>
        have q2 : E (.ref Cq) none H := by
          have q3 := q;simp only [e2] at q3;exact q3
        refine ifF rfl ?_;exact z49 (D := noD) rfl hwl hwa (by decide +kernel) q2

def Trs.of : List Tr → Trs
  | [] => .nil
  | a :: r => .cons a (Trs.of r)
inductive AllAt (H : Hp) : List Tr → List V → Prop
  | nil : AllAt H [] []
  | cons {t : Tr} {v : V} {ts : List Tr} {vs : List V} : jN H t v → AllAt H ts vs → AllAt H (t :: ts) (v :: vs)
theorem AllAt.trs {H : Hp} : ∀ {ts : List Tr} {vs : List V}, AllAt H ts vs → yi H (Trs.of ts) vs
  | _, _, .nil => by simp only [Trs.of, yi]
  | _, _, .cons h r => by
    simp only [Trs.of, yi];exact ⟨_, _, rfl, h, r.trs⟩
theorem AllAt.same {H H' : Hp} (e : zM H H') : ∀ {ts : List Tr} {vs : List V}, AllAt H ts vs → AllAt H' ts vs
  | _, _, .nil => .nil
  | _, _, .cons h r => .cons (h.same e) (r.same e)
theorem AllAt.mono {H H' : Hp} (e : ∀ b xs, H b = some (.tup xs) → H' b = some (.tup xs)) : ∀ {ts : List Tr} {vs : List V}, AllAt H ts vs → AllAt H' ts vs
  | _, _, .nil => .nil
  | _, _, .cons h r => .cons (h.mono e) (r.mono e)
theorem AllAt.len {H : Hp} : ∀ {ts : List Tr} {vs : List V}, AllAt H ts vs → ts.length = vs.length
  | _, _, .nil => rfl
  | _, _, .cons _ r => by simp only [List.length_cons, r.len]
theorem AllAt.snoc {H : Hp} {t : Tr} {v : V} (h : jN H t v) : ∀ {ts : List Tr} {vs : List V}, AllAt H ts vs → AllAt H (ts ++ [t]) (vs ++ [v])
  | _, _, .nil => .cons h .nil
  | _, _, .cons a r => .cons a (AllAt.snoc h r)
theorem AllAt.get {H : Hp} : ∀ {ts : List Tr} {vs : List V} {i : Nat} {v : V}, AllAt H ts vs → vs[i]? = some v → ∃ t, ts[i]? = some t ∧ jN H t v
  | _, _, 0, v, .cons a r, e => by
    have e' : some _ = some v := e;cases e';exact ⟨_, rfl, a⟩
  | _, _, i + 1, v, .cons a r, e => r.get (i := i) e
theorem AllAt.split {H : Hp} : ∀ {ts : List Tr} {vs : List V} {t : Tr}, AllAt H (ts ++ [t]) vs → ∃ ws v, vs = ws ++ [v] ∧ AllAt H ts ws ∧ jN H t v
  | [], _, t, .cons h .nil => ⟨[], _, rfl, .nil, h⟩
  | a :: ts, _, t, .cons h r => by
    obtain ⟨ws, v, rfl, h1, h2⟩ := AllAt.split r;exact ⟨_ :: ws, v, rfl, .cons h h1, h2⟩
def jY : List Str → List Tr → Option (List Tr)
  | f :: fs, t :: ts => match je f t, jY fs ts with
    | some a, some r => some (a :: r)
    | _, _ => none
  | [], [] => some []
  | _, _ => none
theorem z1X : ∀ {fs : List Str} {ts ks : List Tr}, jY fs ts = some ks → fs.length = ts.length ∧ ks.length = ts.length
  | [], [], ks, h => by cases h; exact ⟨rfl, rfl⟩
  | [], _ :: _, ks, h => by cases h
  | _ :: _, [], ks, h => by cases h
  | f :: fs, t :: ts, ks, h => by
    unfold jY at h;cases h1 : je f t with
    | none => rw [h1] at h; cases h
    | some a =>
      cases h2 : jY fs ts with
      | none => rw [h1, h2] at h; cases h
      | some r =>
        rw [h1, h2] at h;cases h;have := z1X h2;exact ⟨by simp only [List.length_cons, this.1], by simp only [List.length_cons, this.2]⟩
def kg (word : Str) (ts : List Tr) : Option Tr := match kw word ts.length with
  | none => none
  | some fs => if fs.length = ts.length then match jY fs ts with
      | none => none
      | some ks => some (if word = "cols" then .t (.cons (.s "cols") (.cons (.t (Trs.of ks.dropLast)) (.cons (ks.getLastD (.s "")) .nil))) else .t (.cons (.s word) (Trs.of ks)))
    else none
theorem z5O {word : Str} {ts : List Tr} {t' : Tr} (h : kg word ts = some t') : ∃ fs ks, kw word ts.length = some fs ∧ fs.length = ts.length ∧ jY fs ts = some ks ∧
    t' = if word = "cols" then .t (.cons (.s "cols") (.cons (.t (Trs.of ks.dropLast)) (.cons (ks.getLastD (.s "")) .nil))) else .t (.cons (.s word) (Trs.of ks)) := by
  unfold kg at h;split at h
  · cases h
  · rename_i fs hf;split at h
    · rename_i hfl;split at h
      · cases h
      · rename_i ks hk;cases h;exact ⟨fs, ks, hf, hfl, hk, rfl⟩
    · cases h
theorem z5z (ws : List V) (v : V) : z1C (ws ++ [v]) none (some (-1)) = ws := by
  unfold z1C;have e1 : HT.sIx (ws ++ [v]).length 0 none = 0 := rfl;have e2 : HT.sIx (ws ++ [v]).length (ws ++ [v]).length (some (-1)) = ws.length := by
    show (if (-1 : Int) < 0 then ((-1 : Int) + ((ws ++ [v]).length : Int)).toNat else min (-1 : Int).toNat (ws ++ [v]).length) = _
    rw [if_pos (by decide), List.length_append, List.length_singleton];omega
  rw [e1, e2, List.drop_zero, Nat.sub_zero, List.take_left]
theorem z4d : ∀ {fs : List Str} {ts : List Tr} {i : Nat} {f : Str} {t : Tr}, fs[i]? = some f → ts[i]? = some t → je f t = none → jY fs ts = none
  | [], _, i, _, _, hf, _, _ => by simp at hf
  | _ :: _, [], i, _, _, _, ht, _ => by simp at ht
  | f :: fs, t :: ts, 0, f', t', hf, ht, h => by
    have e1 : some f = some f' := hf;have e2 : some t = some t' := ht;cases e1;cases e2;unfold jY;rw [h]
  | f :: fs, t :: ts, i + 1, f', t', hf, ht, h => by
    have ih := z4d (fs := fs) (ts := ts) (i := i) hf ht h;unfold jY;rw [ih];cases je f t <;> rfl
theorem z4f : ∀ {fs : List Str} {ts ks : List Tr} {f : Str} {t k : Tr}, jY fs ts = some ks → je f t = some k → jY (fs ++ [f]) (ts ++ [t]) = some (ks ++ [k])
  | [], [], ks, f, t, k, h, e => by
    cases h
    show jY [f] [t] = some [k]
    unfold jY;rw [e]
    rfl
  | [], _ :: _, ks, _, _, _, h, _ => by cases h
  | _ :: _, [], ks, _, _, _, h, _ => by cases h
  | g :: fs, u :: ts, ks, f, t, k, h, e => by
    unfold jY at h;cases h1 : je g u with
    | none => rw [h1] at h; cases h
    | some a =>
      cases h2 : jY fs ts with
      | none => rw [h1, h2] at h; cases h
      | some r =>
        rw [h1, h2] at h;cases h;have ih := z4f h2 e
        show jY (g :: (fs ++ [f])) (u :: (ts ++ [t])) = some (a :: (r ++ [k]))
        unfold jY;rw [h1, ih]
theorem z9E {word : Str} {ts : List Tr} {fs : List Str} (hf : kw word ts.length = some fs) (hl : fs.length = ts.length) : kg word ts = match jY fs ts with
    | none => none
    | some ks => some (if word = "cols" then .t (.cons (.s "cols") (.cons (.t (Trs.of ks.dropLast)) (.cons (ks.getLastD (.s "")) .nil))) else .t (.cons (.s word) (Trs.of ks))) := by
  unfold kg;rw [hf];simp only [hl, if_true]
theorem z5s {word : Str} {n : Nat} {fs : List Str} (h : kw word n = some fs) : ∀ f ∈ fs, f.length ≤ 1000 := by
  have ht : ∀ {D : List (Str × List Str)} {k : Str} {xs : List Str}, (∀ p ∈ D, ∀ f ∈ p.2, f.length ≤ 1000) → tabAt D k = some xs → ∀ f ∈ xs, f.length ≤ 1000 := fun {D k xs} hD e => by
    unfold tabAt at e;exact hD _ (PySem.mem_of_lookup e)
  unfold kw at h;split at h
  · cases h;intro f hf;rcases List.mem_append.mp hf with hf | hf
    · rw [List.eq_of_mem_replicate hf]; decide +kernel
    · rw [List.mem_singleton.mp hf]; decide +kernel
  · split at h
    · rename_i e;cases h;exact ht (by decide +kernel) e
    · exact ht (by decide +kernel) h
theorem z7f {w : Str} {ts : List Tr} {t : Tr} (h : kg w ts = some t) : okT t := by
  obtain ⟨fs, ks, _, _, _, e⟩ := z5O h;rw [e];split <;> exact True.intro
def z6C (K : PySem.W.Frag) (Cq : Addr) : Sp := fun vs H Q E => ∃ (word : Str) (l : Addr) (ts : List Tr) (ps : List V), vs = [.str word, .ref l] ∧ H l = some (.lst ps) ∧ AllAt H ts ps ∧ ts.length ≤ 900000 ∧ (∀ t ∈ ts, okT t) ∧ word.length ≤ 900000 ∧ Asc word ∧ match kg word ts with
  | some t' => ∀ v' H', zM H H' → jN H' t' v' → Q v' H'
  | none => ∀ H', zM H H' → E (.ref Cq) none H'
theorem z4J : FnScope ["word", "parts", "forms", "kept"] ["word", "parts"] (zv z1d) := ⟨rfl, rfl, rfl, by decide +kernel, rfl, by decide +kernel, by decide +kernel⟩
theorem z9O (F : Fun K "made" "made" z1d f fd) (T : Txt K mg) (R : TxtR K mg) {Cq : Addr} (hNoQuestion : mg "NoQuestion" = some (.ref Cq)) (exNoQuestion : PySem.W.excIn K Cq z24 "ValueError.__new__" = true) (Cforms_behind : KnX P w K mg base 1 "forms_behind" ["word", "count"] (z4Z K Cq)) (Ctaken : KnX P w K mg base 2 "taken" ["form", "part"] (z2Z K Cq)) : FnOk P w K mg base (CXR P w) 3 f fd ["word", "parts"] (z6C K Cq) := by
  refine F.okX z4J (fun vs H Q E h => ?_) (fun cdv A outer s H vs Q E hr h => ?_)
  · obtain ⟨word, l, ts, ps, rfl, _⟩ := h
    rfl
  obtain ⟨word, l, ts, ps, rfl, hl, hps, hn, hsh, hwl, hwa, q⟩ := h;have hlen := hps.len;refine ⟨_, (zj (zu (i := 2) z4J.nd rfl (Or.inl rfl) (z0C Cforms_behind z0E hr.m rfl (zl (pv 0) (ya (zI zK rfl T.len PySem.boot_len (zl (pv 1) zi)) zi))))
    (zj (jc (zG z34 (zI zK rfl T.len PySem.boot_len (zl (pv 1) zi)) (zI zK rfl T.len PySem.boot_len (zl (pv 2) zi)) (zN _))
      (zq (z0x z05 rfl rfl hNoQuestion exNoQuestion (yY (z4I (z8M (pv 0) (z52 z6y))) zi)))
      zQ)
    (zj (z5T (j := 3) rfl z4J.nd rfl (Or.inl rfl) (CompScG.of (sx := zv z1d) (NX := ["word", "parts", "forms", "kept"]) (xs := ["form", "part"]) (fr := []) (ix := []) rfl rfl (by decide +kernel)) (zaV rfl T.zip (zl (pv 2) (zl (pv 1) zi))) (zbc rfl (CompScG.of (sx := zv z1d) (NX := ["word", "parts", "forms", "kept"]) (xs := ["form", "part"]) (fr := []) (ix := []) rfl rfl (by decide +kernel)) (by rfl) (by rfl)) (fun _ _ _ _ _ _ => kf) (fun _ _ _ _ _ _ => (z0C Ctaken z6a hr.m rfl (zl (pv 0) (zl (pv 1) zi)))) rfl rfl z0E)
    (zj (jc (zG jm (pv 0) zm (zN _))
      (zq (zR (zJ (zn zm (ya (yl z0n rfl T.tuple PyProof.Rows.boot_tuple (zF (jh yB (pv 3) jF (jq (z1g z0h zd))) zi)) (zF (zw zT (pv 3) (z1g z0h zd) (fun _ _ => rfl)) zi))))))
      zQ)
    (zq (zR (yl z0n rfl T.tuple PyProof.Rows.boot_tuple (yd (zr jR (zV (zl (pv 0) zi)) (pv 3)) zi)))))))), ?_⟩
  refine ⟨_, rfl, _, rfl, l, _, rfl, .inl (SqL.of hl), word, ts.length, by rw [hlen]; rfl, hn, hwl, hwa, ?_⟩;cases hf : kw word ts.length with
  | none =>
    have hm : kg word ts = none := by unfold kg; rw [hf]
    rw [hm] at q;exact q _ (zM.refl _)
  | some fs =>
  intro b H1 n1 hb;refine ⟨_, rfl, l, _, rfl, .inl (SqL.of (n1 _ _ hl)), _, rfl, b, _, rfl, .inr hb, rfl, _, rfl, ?_⟩;by_cases hfl : fs.length = ts.length
  · have hbl : (fs.map V.str).length = ps.length := by rw [List.length_map, hfl, hlen]
    rw [z9E hf hfl] at q;refine ifF (by rw [z0U, hbl]; simp) ?_;refine ⟨_, rfl, _, rfl, b, l, rfl, ⟨_, hb⟩, ⟨_, SqL.of (n1 _ _ hl)⟩, ?_⟩;refine z7w (xs := fs.map V.str) (ys := ps) hbl (fun i zs H' => zM H1 H' ∧ i ≤ ps.length ∧ ∃ ks, jY (fs.take i) (ts.take i) = some ks ∧ AllAt H' ks zs) ⟨zM.refl _, Nat.zero_le _, [], rfl, .nil⟩ (fun i zs H' hi ⟨e, h2, ks, h4, h3⟩ => ⟨e.tup hb, SqL.of (e _ _ (n1 _ _ hl)), jj ?_⟩) ?_ ?_
    · have h5 := h3.len;have h6 := (z1X h4).2;rw [List.length_take] at h6;omega
    · rintro i x y zs H' p hx hy ⟨e, h2, ks, h4, h3⟩ hp;refine zc (upd _ p _) rfl hp fun H2 n2 x2 => ?_
      rw [List.getElem?_map] at hx;cases hfi : fs[i]? with
      | none => rw [hfi] at hx; cases hx
      | some form =>
        rw [hfi] at hx;cases hx;obtain ⟨t, hti, htv⟩ := (hps.same (n1.trans (e.trans n2))).get hy;refine ⟨_, rfl, _, rfl, form, y, t, rfl, htv, hsh t (List.mem_of_getElem? hti), z5s hf form (List.mem_of_getElem? hfi), ?_⟩;cases htk : je form t with
        | none =>
          rw [z4d hfi hti htk] at q;exact fun H3 n3 => q _ (n1.trans (e.trans (n2.trans n3)))
        | some k =>
          refine fun v' H3 n3 hv' => ⟨⟨_, _, rfl⟩, (e.trans n2).trans n3, ?_, ks ++ [k], ?_, (h3.same (n2.trans n3)).snoc hv'⟩
          · have := (List.getElem?_eq_some_iff.mp hy).1;omega
          · rw [List.take_add_one, List.take_add_one, hfi, hti];exact z4f h4 htk
    · rintro zs H2 ⟨e, h2, ks, h4, h3⟩ kp hkp';rw [List.length_map, hfl, List.take_of_length_le (by omega), List.take_length] at h4;rw [h4] at q;dsimp only at q;obtain ⟨_, hkl⟩ := z1X h4;refine zc (upd _ kp _) rfl hkp' fun H3 n3 x3 => ?_
      have a3 := h3.same n3;have s3 := n1.trans (e.trans n3);have hzl := h3.len;refine ⟨_, rfl, rfl, _, rfl, ?_⟩;by_cases hw : word = "cols"
      · rw [if_pos hw] at q;refine ifT (by rw [jd, decide_eq_true hw]) ?_;have hk0 : ks ≠ [] := fun e => by
          have hf2 := hf;unfold kw at hf2;rw [if_pos hw] at hf2;cases hf2;rw [e, List.length_nil] at hkl;rw [← hkl, List.length_append, List.length_singleton] at hfl;omega
        obtain ⟨kk, k, rfl⟩ := z1j hk0;rw [List.dropLast_concat, List.getLastD_concat] at q;obtain ⟨ws, v, rfl, aw, av⟩ := AllAt.split a3;rw [List.length_append, List.length_append, List.length_singleton, List.length_singleton] at hzl;refine ⟨_, rfl, _, rfl, _, rfl, kp, _, rfl, SqL.of x3, fun l1 hl1 => ?_⟩;rw [z5z];refine zc (upd _ l1 _) rfl hl1 fun H4 n4 x4 => ?_
        refine ⟨l1, _, rfl, .inl ⟨SqL.of x4, fun l2 hl2 => ?_⟩⟩;refine zc (upd _ l2 _) rfl hl2 fun H5 n5 x5 => ?_
        refine ⟨_, rfl, _, rfl, kp, _, _, v, rfl, rfl, SqL.of (n5 _ _ (n4 _ _ x3)), z3M _ _, zt (by show 3 ≤ _; decide), fun l3 hl3 => ?_⟩;refine zc (upd _ l3 _) rfl hl3 fun H6 n6 x6 => ?_
        refine q _ H6 (s3.trans (n4.trans (n5.trans n6))) ?_;simp only [jN, yi];exact ⟨l3, _, rfl, x6, _, _, rfl, rfl, _, _, rfl, ⟨l2, _, rfl, n6 _ _ x5, (aw.same (n4.trans (n5.trans n6))).trs⟩, _, _, rfl, av.same (n4.trans (n5.trans n6)), rfl⟩
      · rw [if_neg hw] at q;refine ifF (by rw [jd, decide_eq_false hw]) ?_;refine ⟨_, rfl, zt (by show 1 ≤ _; decide), fun l1 hl1 => ?_⟩;refine zc (upd _ l1 _) rfl hl1 fun H4 n4 x4 => ?_
        refine ⟨_, rfl, l1, kp, _, _, rfl, rfl, x4, n4 _ _ x3, zt ?_, fun l2 hl2 => ?_⟩
        · show 1 + zs.length ≤ _
          omega
        refine zc (upd _ l2 _) rfl hl2 fun H5 n5 x5 => ?_
        refine ⟨l2, _, rfl, .inl ⟨SqL.of x5, fun l3 hl3 => ?_⟩⟩;refine zc (upd _ l3 _) rfl hl3 fun H6 n6 x6 => ?_
        refine q _ H6 (s3.trans (n4.trans (n5.trans n6))) ?_;simp only [jN, yi];exact ⟨l3, _, rfl, x6, _, _, rfl, rfl, (a3.same (n4.trans (n5.trans n6))).trs⟩
  · have hm : kg word ts = none := by
      unfold kg;rw [hf];simp only [hfl, if_false]
    rw [hm] at q;refine ifT (by rw [z0U, List.length_map, ← hlen]; simp; omega) ?_;exact z49 (D := noD) rfl hwl hwa (by decide +kernel) (q _ n1)

abbrev Stack := List (Str × List Tr)
def yo : Nat → Stack → Tr → Option Tr
  | 0, _, t => some t
  | k + 1, (w, ts) :: st, t => match kg w (ts ++ [t]) with
    | some t' => yo k st t'
    | none => none
  | _ + 1, [], _ => none
inductive FrAt (H : Hp) : List Addr → Stack → Prop
  | nil : FrAt H [] []
  | cons {r : Addr} {w : Str} {ts : List Tr} {vs : List V} {rs : List Addr} {st : Stack} : H r = some (.lst (.str w :: vs)) → AllAt H ts vs → FrAt H rs st → FrAt H (r :: rs) ((w, ts) :: st)
theorem FrAt.mono {H H' : Hp} {rs : List Addr} {st : Stack} (h : FrAt H rs st) (hl : ∀ r ∈ rs, ∀ o, H r = some o → H' r = some o) (ht : ∀ b xs, H b = some (.tup xs) → H' b = some (.tup xs)) : FrAt H' rs st := by
  induction h with
  | nil => exact .nil
  | cons h1 h2 _ ih => exact .cons (hl _ List.mem_cons_self _ h1) (h2.mono ht) (ih fun r hr => hl r (List.mem_cons_of_mem _ hr))
theorem FrAt.len {H : Hp} {rs : List Addr} {st : Stack} (h : FrAt H rs st) : rs.length = st.length := by
  induction h with
  | nil => rfl
  | cons _ _ _ ih => rw [List.length_cons, List.length_cons, ih]
def z9L (n : Nat) (st : Stack) : Prop := ∀ f ∈ st, f.2.length < n ∧ (∀ t ∈ f.2, okT t) ∧ f.1.length ≤ 900000 ∧ Asc f.1
def baseOf (piece : Str) : Str := Txt.rstripChars piece ")"
def jA (piece : Str) : Nat := piece.length - (baseOf piece).length
theorem z3q (piece : Str) : piece.length = (baseOf piece).length + jA piece := by
  have : (baseOf piece).length ≤ piece.length := PyProof.Rows.len_rstripChars piece ")";unfold jA;omega
def z3N (K : PySem.W.Frag) (Cq : Addr) : Sp := fun vs H Q E => ∃ (ap : Addr) (piece : Str) (rs : List Addr) (st : Stack), vs = [.ref ap, .str piece] ∧ H ap = some (.lst (rs.reverse.map V.ref)) ∧ ap ∉ rs ∧ FrAt H rs st ∧ z9L 900000 st ∧ piece.length ≤ 800000 ∧
  match yo (jA piece) st (.s (baseOf piece)) with
  | some t => ∀ v' H', Kp ap H H' → H' ap = some (.lst ((rs.drop (jA piece)).reverse.map V.ref)) → jN H' t v' → Q v' H'
  | none => ∀ H', Kp ap H H' → E (.ref Cq) none H'
theorem z1W : ∀ {k : Nat} {st : Stack} {t t' : Tr}, yo k st t = some t' → k ≤ st.length
  | 0, _, _, _, _ => Nat.zero_le _
  | k + 1, [], _, _, h => by cases h
  | k + 1, (w, ts) :: st, t, t', h => by
    unfold yo at h;cases e : kg w (ts ++ [t]) with
    | none => rw [e] at h; cases h
    | some u =>
      rw [e] at h;have := z1W h;rw [List.length_cons];omega
theorem z8C {ap : Addr} {H H' : Hp} {xs : List V} (k : Kp ap H H') (h : H ap = some (.lst xs)) : ∀ b ys, H b = some (.tup ys) → H' b = some (.tup ys) := fun b ys e => k b _ (z8i e h (by intro z; cases z)) e
theorem z09 : FnScope ["above", "piece", "part", "brackets", "over"] ["above", "piece"] (zv z0D) := ⟨rfl, rfl, rfl, by decide +kernel, rfl, by decide +kernel, by decide +kernel⟩
theorem z7Y (F : Fun K "closed" "closed" z0D f fd) (T : Txt K mg) {Cq : Addr} (hNoQuestion : mg "NoQuestion" = some (.ref Cq)) (exNoQuestion : PySem.W.excIn K Cq z24 "ValueError.__new__" = true) (Cmade : KnX P w K mg base 3 "made" ["word", "parts"] (z6C K Cq)) : FnOk P w K mg base (CXR P w) 4 f fd ["above", "piece"] (z3N K Cq) := by
  refine F.okX z09 (fun vs H Q E h => ?_) (fun cdv A outer s H vs Q E hr h => ?_)
  · obtain ⟨ap, piece, rs, st, rfl, _⟩ := h
    rfl
  obtain ⟨ap, piece, rs, st, rfl, hap, hnr, hfr, hok, hpl, q⟩ := h;have hlen := hfr.len;have hk := z3q piece;generalize hwd : baseOf piece = wd at hk q;unfold baseOf at hwd;generalize jA piece = k at hk q;refine ⟨_, (zj (zu (i := 2) z09.nd rfl (Or.inl rfl) (jZ PySem.F.plainAttrs_str PySem.F.slot_str_rstrip PySem.F.type_str_rstrip z7P (pv 1) (zn zm zi)))
    (zj (zu (i := 3) z09.nd rfl (Or.inl rfl) (zr z14 (zI z0O rfl T.len PySem.boot_len (zl (pv 1) zi)) (zI z0O rfl T.len PySem.boot_len (zl (pv 2) zi))))
    (zj (jc (zG z3e (pv 3) (zI zK rfl T.len PySem.boot_len (zl (pv 0) zi)) (zN _))
      (zq (z0x z05 rfl rfl hNoQuestion exNoQuestion (zn zm zi)))
      zQ)
    (zj (z5L z7i (zG z3e (pv 3) zd (zN _))
      (zj (zu (i := 4) z09.nd rfl (Or.inl rfl) (z60 PySem.F.plainAttrs_list PySem.F.slot_list_pop PySem.F.type_list_pop z87 (pv 0)))
      (zj (zu (i := 2) z09.nd rfl (Or.inl rfl) (z0C Cmade z0E hr.m rfl (zF (zw zT (pv 4) zd (fun _ _ => rfl)) (yd (zr jR (jh yB (pv 4) (jq zd) jF) (zV (zl (pv 2) zi))) zi))))
      (zq (zu (i := 3) z09.nd rfl (Or.inl rfl) (zr z14 (pv 3) zd))))))
    (zq (zR (pv 2))))))), ?_⟩
  refine ⟨_, rfl, rfl, _, _, rfl, rfl, zt (by omega), ?_⟩;rw [hwd];refine ⟨_, rfl, piece, rfl, zt (by omega), _, rfl, wd, rfl, zt (by omega), _, _, rfl, rfl, ?_⟩;have e1 : ((piece.length : Nat) : Int) - ((wd.length : Nat) : Int) = ((k : Nat) : Int) := by omega
  dsimp -proj only;rw [e1];refine ⟨_, rfl, _, rfl, ap, _, rfl, .inl (SqL.of hap), _, _, rfl, rfl, _, rfl, ?_⟩;by_cases hks : k ≤ st.length
  case neg =>
    have hno : yo k st (.s wd) = none := by
      cases z : yo k st (.s wd) with
      | none => rfl
      | some t => exact absurd (z1W z) hks
    rw [hno] at q;refine ifT (decide_eq_true (by rw [List.length_map, List.length_reverse, hlen]; omega)) ?_;exact ⟨zt (by show 1 ≤ _; decide), q _ Kp.refl⟩
  refine ifF (decide_eq_false (by rw [List.length_map, List.length_reverse, hlen]; omega)) ?_;generalize hL : yo k st (.s wd) = res at q;refine z7g (fun m σ H' => ∃ (j : Nat) (v : V) (tj : Tr) (o4 : Option V), m = k - j ∧ j ≤ k ∧ σ = [some (.ref ap), some (.str piece), some v, some (.int ((k - j : Nat) : Int)), o4] ∧ Kp ap H H' ∧ H' ap = some (.lst ((rs.drop j).reverse.map V.ref)) ∧ jN H' tj v ∧ okT tj ∧ yo (k - j) (st.drop j) tj = res) k
    ⟨0, _, .s wd, none, rfl, Nat.zero_le _, rfl, Kp.refl, hap, rfl, (show wd.length ≤ 900000 by omega), hL⟩ ?_
  rintro m σ H1 ⟨j, v, tj, o4, rfl, hj, rfl, k1, a1, t1, sh1, l1⟩;refine ⟨_, rfl, _, _, rfl, rfl, _, rfl, ?_⟩;by_cases hjk : j < k
  · refine ifT (decide_eq_true (by omega)) ?_;refine ⟨_, fun σ' H' z => z, ?_⟩;have hjr : j < rs.length := by omega
    have hjs : j < st.length := by omega
    have er : rs.drop j = rs[j] :: rs.drop (j + 1) := List.drop_eq_getElem_cons hjr;have es : st.drop j = st[j] :: st.drop (j + 1) := List.drop_eq_getElem_cons hjs;have ek : k - j = (k - (j + 1)) + 1 := by omega
    rw [er, List.reverse_cons, List.map_append] at a1;replace a1 : H1 ap = some (.lst ((rs.drop (j + 1)).reverse.map V.ref ++ [V.ref rs[j]])) := a1;rw [es, ek] at l1;have hfd : ∀ {rs : List Addr} {st : Stack} (j : Nat), FrAt H rs st → FrAt H (rs.drop j) (st.drop j) := fun j h => by
      induction h generalizing j with
      | nil => cases j <;> exact .nil
      | cons h1 h2 h3 ih =>
        cases j with
        | zero => exact .cons h1 h2 h3
        | succ j => exact ih j
    have hfj := hfd j hfr;rw [er, es] at hfj;have hmem : rs[j] ∈ rs := List.getElem_mem hjr;have hst := hok st[j] (List.getElem_mem hjs);generalize rs[j] = r at a1 hfj hmem;generalize st[j] = fj at l1 hfj hst;obtain ⟨wj, tsj⟩ := fj;cases hfj with
    | cons hr1 hr2 hr3 =>
      rename_i vs;have nra : r ≠ ap := fun e => hnr (e ▸ hmem)
      refine ⟨_, rfl, .inl ⟨rfl, _, SqL.of a1⟩, ap, _, _, rfl, rfl, a1, z79 _ _, ?_⟩;rw [List.dropLast_concat];have k2 : Kp ap H (upd H1 ap (.lst ((rs.drop (j + 1)).reverse.map V.ref))) := k1.put;have a2 : upd H1 ap (.lst ((rs.drop (j + 1)).reverse.map V.ref)) ap = some (.lst ((rs.drop (j + 1)).reverse.map V.ref)) := zU;have t2 := t1.mono (z1A (o := .lst ((rs.drop (j + 1)).reverse.map V.ref)) a1);generalize upd H1 ap (.lst ((rs.drop (j + 1)).reverse.map V.ref)) = H2 at k2 a2 t2 ⊢;have r2 := k2 _ _ nra hr1;have v2 := hr2.mono (z8C k2 hap);have hvl := v2.len;refine ⟨_, rfl, r, _, _, _, rfl, rfl, SqL.of r2, yc, _, rfl, _, rfl, r, _, rfl, SqL.of r2, fun l1' hl1 => ?_⟩;rw [z1S];refine zc (upd _ l1' _) rfl hl1 fun H3 n3 x3 => ?_
      refine ⟨_, rfl, zt (by show 1 ≤ _; decide), fun l2 hl2 => ?_⟩;refine zc (upd _ l2 _) rfl hl2 fun H4 n4 x4 => ?_
      refine ⟨l1', l2, _, _, rfl, rfl, n4 _ _ x3, x4, zt ?_, fun l3 hl3 => ?_⟩
      · have := hst.1
        show vs.length + 1 ≤ _
        simp only at this;omega
      refine zc (upd _ l3 _) rfl hl3 fun H5 n5 x5 => ?_
      have n25 := n3.trans (n4.trans n5);unfold yo at l1;refine ⟨wj, l3, tsj ++ [tj], _, rfl, x5, (v2.same n25).snoc (t2.same n25), ?_, ?_, hst.2.2.1, hst.2.2.2, ?_⟩
      · have := hst.1;rw [List.length_append, List.length_singleton];simp only at this;omega
      · intro z hz;rcases List.mem_append.mp hz with hz | hz
        · exact hst.2.1 z hz
        · rw [List.mem_singleton.mp hz];exact sh1
      cases em : kg wj (tsj ++ [tj]) with
      | none =>
        rw [em] at l1;have l2 : none = res := l1;subst l2;exact fun H6 n6 => q _ (k2.trans (n25.trans n6).kp)
      | some u =>
        rw [em] at l1;intro v' H6 n6 hv';have n26 := n25.trans n6;refine ⟨_, rfl, _, _, rfl, rfl, k - (j + 1), by omega, j + 1, v', u, some (V.ref r), rfl, by omega, ?_, k2.trans n26.kp, n26 _ _ a2, hv', z7f em, l1⟩;have e3 : ((k - j : Nat) : Int) - 1 = ((k - (j + 1) : Nat) : Int) := by omega
        show [some (V.ref ap), some (V.str piece), some v', some (V.int (((k - j : Nat) : Int) - 1)), some (V.ref r)] = _
        rw [e3]
  · refine ifF (decide_eq_false (by omega)) ?_;have e : j = k := by omega
    subst e;rw [Nat.sub_self] at l1;have l2 : some tj = res := l1;subst l2;exact ⟨_, rfl, q v H1 k1 a1 t1⟩
def jS (st : Stack) (piece : Str) : Option Stack := if Txt.startswith piece "(" = true then some ((Txt.slice piece (some 1) none, []) :: st) else match yo (jA piece) st (.s (baseOf piece)) with
  | none => none
  | some t => match st.drop (jA piece) with
    | [] => none
    | (w, ts) :: r => some ((w, ts ++ [t]) :: r)
def yF : Stack → List Str → Option Stack
  | st, [] => some st
  | st, p :: ps => match jS st p with
    | some st' => yF st' ps
    | none => none
theorem z3n : ∀ {st st' : Stack} {ps : List Str} {p : Str}, yF st ps = some st' → yF st (ps ++ [p]) = jS st' p
  | st, st', [], p, h => by
    cases h
    show (match jS st p with | some st' => some st' | none => none) = _
    cases jS st p <;> rfl
  | st, st', a :: ps, p, h => by
    unfold yF at h
    show (match jS st a with | some s2 => yF s2 (ps ++ [p]) | none => none) = _
    cases e : jS st a with
    | none => rw [e] at h; cases h
    | some s2 =>
      rw [e] at h;exact z3n h
theorem z6W : ∀ {st st' : Stack} {ps qs : List Str}, yF st (ps ++ qs) = some st' → ∃ s2, yF st ps = some s2 ∧ yF s2 qs = some st'
  | st, st', [], qs, h => ⟨st, rfl, h⟩
  | st, st', a :: ps, qs, h => by
    have h' : (match jS st a with | some s2 => yF s2 (ps ++ qs) | none => none) = some st' := h;cases e : jS st a with
    | none => rw [e] at h'; cases h'
    | some s2 =>
      rw [e] at h';obtain ⟨s3, h1, h2⟩ := z6W h';refine ⟨s3, ?_, h2⟩
      show (match jS st a with | some s2 => yF s2 ps | none => none) = _
      rw [e];exact h1
theorem z53 : ∀ {k : Nat} {st : Stack} {t t' : Tr}, yo k st t = some t' → okT t → okT t'
  | 0, _, _, _, h, s => by cases h; exact s
  | k + 1, [], _, _, h, _ => by cases h
  | k + 1, (w, ts) :: st, t, t', h, s => by
    unfold yo at h;cases e : kg w (ts ++ [t]) with
    | none => rw [e] at h; cases h
    | some u =>
      rw [e] at h;exact z53 h (z7f e)
theorem FrAt.drop {H : Hp} {rs : List Addr} {st : Stack} (h : FrAt H rs st) : ∀ j, FrAt H (rs.drop j) (st.drop j) := by
  induction h with
  | nil => intro j; cases j <;> exact .nil
  | cons h1 h2 h3 ih =>
    intro j;cases j with
    | zero => exact .cons h1 h2 h3
    | succ j => exact ih j
theorem FrAt.put {H : Hp} {rs : List Addr} {st : Stack} {x : Addr} {xs : List V} {o : HO} (h : FrAt H rs st) (hx : H x = some (.lst xs)) (hn : x ∉ rs) : FrAt (upd H x o) rs st :=
  h.mono (fun r hr ob e => by rw [zO (show r ≠ x from fun z => hn (by rw [← z]; exact hr))]; exact e) (z1A hx)
theorem FrAt.kp {H H' : Hp} {rs : List Addr} {st : Stack} {x : Addr} {xs : List V} (h : FrAt H rs st) (k : Kp x H H') (hx : H x = some (.lst xs)) (hn : x ∉ rs) : FrAt H' rs st :=
  h.mono (fun r hr ob e => k r ob (fun z => hn (by rw [← z]; exact hr)) e) (z8C k hx)
theorem FrAt.same {H H' : Hp} {rs : List Addr} {st : Stack} (h : FrAt H rs st) (e : zM H H') : FrAt H' rs st := h.mono (fun r _ ob z => e _ _ z) fun b xs z => e _ _ z
theorem z38 : ∀ {st st' : Stack} {ps : List Str} {i : Nat} {p : Str}, yF st (ps.take i) = some st' → ps[i]? = some p → jS st' p = none → yF st ps = none
  | st, st', [], i, p, _, hp, _ => by simp at hp
  | st, st', a :: ps, 0, p, h, hp, hs => by
    cases h;have e : some a = some p := hp;cases e
    show (match jS st a with | some s2 => yF s2 ps | none => none) = none
    rw [hs]
  | st, st', a :: ps, i + 1, p, h, hp, hs => by
    have h' : (match jS st a with | some s2 => yF s2 (ps.take i) | none => none) = some st' := h
    show (match jS st a with | some s2 => yF s2 ps | none => none) = none
    cases e : jS st a with
    | none => rfl
    | some s2 =>
      rw [e] at h';exact z38 h' hp hs
def z3z (ps : List Str) : Option Tr := match yF [] ps.dropLast with
  | none => none
  | some st => match yo (jA (ps.getLastD "")) st (.s (baseOf (ps.getLastD ""))) with
    | none => none
    | some t => match st.drop (jA (ps.getLastD "")) with
      | [] => je "question" t
      | _ => none
def y0 (line : Str) : Option Tr := z3z (Txt.split line " ")
theorem z4a (x : Str) : (Txt.slice x (some 1) none).length ≤ x.length := Txt.slice_le x _ _
theorem z1P (line : Str) : Txt.split line " " ≠ [] := fun e => by
  have := PyProof.Rows.split_pos line " ";rw [e] at this;simp at this
def z56 (K : PySem.W.Frag) (Cq : Addr) : Sp := fun vs H Q E => ∃ (line : Str), vs = [.str line] ∧ line.length ≤ 800000 ∧ (∀ p ∈ Txt.split line " ", Asc (Txt.slice p (some 1) none)) ∧ match y0 line with
  | some t' => ∀ v' H', zM H H' → jN H' t' v' → Q v' H'
  | none => ∀ H', zM H H' → E (.ref Cq) none H'
structure RdAt (H H' : Hp) (ap pp pl : Addr) (ps init : List V) (rs : List Addr) (st : Stack) (n : Nat) : Prop where
  same : zM H H'
  top : H' ap = some (.lst (rs.reverse.map V.ref))
  hp : H' pp = some (.lst ps)
  hi : H' pl = some (.lst init)
  fr : FrAt H' rs st
  nd : rs.Nodup
  na : ap ∉ rs
  np : pp ∉ rs
  ni : pl ∉ rs
  fresh : ∀ r ∈ rs, H r = none
  ok : z9L n st
theorem z1o : FnScope ["line", "above", "pieces", "piece", "part"] ["line"] (zv z2u) := ⟨rfl, rfl, rfl, by decide +kernel, rfl, by decide +kernel, by decide +kernel⟩
set_option maxHeartbeats 1600000 in
theorem z9y (F : Fun K "read" "read" z2u f fd) (T : Txt K mg) {Cq : Addr} (hNoQuestion : mg "NoQuestion" = some (.ref Cq)) (exNoQuestion : PySem.W.excIn K Cq z24 "ValueError.__new__" = true) (Cclosed : KnX P w K mg base 4 "closed" ["above", "piece"] (z3N K Cq)) (Ctaken : KnX P w K mg base 2 "taken" ["form", "part"] (z2Z K Cq)) : FnOk P w K mg base (CXR P w) 5 f fd ["line"] (z56 K Cq) := by
  refine F.okX z1o (fun vs H Q E h => ?_) (fun cdv A outer s H vs Q E hr h => ?_)
  · obtain ⟨line, rfl, _⟩ := h
    rfl
  obtain ⟨line, rfl, hline, hasc, q⟩ := h;obtain ⟨init, last, hsp⟩ := z1j (z1P line);have hres : y0 line = match yF [] init with
      | none => none
      | some st => match yo (jA last) st (.s (baseOf last)) with
        | none => none
        | some t => match st.drop (jA last) with
          | [] => je "question" t
          | _ => none := by
    unfold y0 z3z;rw [hsp, List.dropLast_concat, List.getLastD_concat]
  have hsl := PyProof.Rows.split_le line " ";rw [hsp, List.length_append, List.length_singleton] at hsl;rw [hsp] at hasc;have hshort : ∀ p ∈ init ++ [last], p.length ≤ line.length := fun p hp => PyProof.Rows.part_short (y := " ") (by rw [hsp]; exact hp)
  refine ⟨_, (zj (zu (i := 1) z1o.nd rfl (Or.inl rfl) (zV zi))
    (zj (zu (i := 2) z1o.nd rfl (Or.inl rfl) (jZ PySem.F.plainAttrs_str PySem.F.slot_str_split PySem.F.type_str_split z8H (pv 0) (zn zm zi)))
    (zj (z02 z7i rfl (kc (jh yB (pv 2) jF (jq (z1g z0h zd)))) (yQ (i := 3) z1o.nd rfl (Or.inl rfl))
      (zq (jc (yU (jZ PySem.F.plainAttrs_str PySem.F.slot_str_startswith PySem.F.type_str_startswith kS (pv 3) (zn zm zi)))
        (zq (kW (jZ PySem.F.plainAttrs_list PySem.F.slot_list_append PySem.F.type_list_append yK (pv 1) (kU (zV (zF (jh z3D (pv 3) (jq zd) jF) zi)) zi))))
        (zj (zu (i := 4) z1o.nd rfl (Or.inl rfl) (z0C Cclosed z0E hr.m rfl (zl (pv 1) (zl (pv 3) zi))))
        (zj (jc (z2s (z5g (pv 1) (fun _ => rfl)))
          (zq (z0x z05 rfl rfl hNoQuestion exNoQuestion (zn zm zi)))
          zQ)
        (zq (kW (jZ PySem.F.plainAttrs_list PySem.F.slot_list_append PySem.F.type_list_append yK (zw zT (pv 1) (z1g z0h zd) (fun _ _ => rfl)) (zl (pv 4) zi)))))))))
    (zj (zu (i := 4) z1o.nd rfl (Or.inl rfl) (z0C Cclosed z0E hr.m rfl (zl (pv 1) (zF (zw zT (pv 2) (z1g z0h zd) (fun _ _ => rfl)) zi))))
    (zj (jc (z5g (pv 1) (fun _ => rfl))
      (zq (z0x z05 rfl rfl hNoQuestion exNoQuestion (zn zm zi)))
      zQ)
    (zq (zR (z0C Ctaken z0E hr.m rfl (zn zm (zl (pv 4) zi)))))))))), ?_⟩
  refine ⟨zt (by show 0 ≤ _; decide), fun ap hap => ?_⟩;refine zc (upd _ ap _) rfl hap fun H1 n1 x1 => ?_
  refine ⟨_, rfl, rfl, _, _, rfl, rfl, by decide +kernel, by have := sizeLine_eq; omega, fun pp hpp => ?_⟩;rw [hsp, List.map_append];refine zc (upd _ pp _) rfl hpp fun H2 n2 x2 => ?_
  refine ⟨_, rfl, _, rfl, _, rfl, pp, _, rfl, SqL.of x2, fun pl hpl => ?_⟩;rw [show [last].map V.str = [V.str last] from rfl, z5z] at *;refine zc (upd _ pl _) rfl hpl fun H3 n3 x3 => ?_
  have nap : ap ≠ pp := zy x1 hpp;have nal : ap ≠ pl := zy (n2 _ _ x1) hpl;have npl : pp ≠ pl := zy x2 hpl;refine ⟨pl, rfl, ⟨_, SqL.of x3⟩, z1f (K := K) (a := pl) (xs := init.map V.str) (fun i σ H' => ∃ (rs : List Addr) (st : Stack) (o3 o4 : Option V), σ = [some (.str line), some (.ref ap), some (.ref pp), o3, o4] ∧ RdAt H H' ap pp pl (init.map V.str ++ [V.str last]) (init.map V.str) rs st (i + 1) ∧ yF [] (init.take i) = some st)
    ⟨[], [], none, none, rfl, ⟨n1.trans (n2.trans n3), n3 _ _ (n2 _ _ x1), n3 _ _ x2, x3, .nil, .nil, by simp, by simp, by simp, by simp, fun f hf => by cases hf⟩, rfl⟩ (fun i σ H' _ ⟨_, _, _, _, _, z, _⟩ => SqL.of z.hi) ?_ ?_⟩
  · rintro i x σ H4 hx ⟨rs, st, o3, o4, rfl, rd, hru⟩;rw [List.getElem?_map] at hx;cases hpi : init[i]? with
    | none => rw [hpi] at hx; cases hx
    | some piece =>
      rw [hpi] at hx;cases hx;have hil : i < init.length := (List.getElem?_eq_some_iff.mp hpi).1;have hpm : piece ∈ init ++ [last] := List.mem_append_left _ (List.mem_of_getElem? hpi);have hpl' := hshort piece hpm;have e2 : init.take (i + 1) = init.take i ++ [piece] := by rw [List.take_add_one, hpi]; rfl
      have hru2 : yF [] (init.take (i + 1)) = jS st piece := by rw [e2, z3n hru]
      have failN : jS st piece = none → y0 line = none := fun z => by rw [hres, z38 hru hpi z]
      refine ⟨_, rfl, rfl, _, _, rfl, rfl, _, rfl, ?_⟩;unfold jS at hru2 failN;by_cases hs : Txt.startswith piece "(" = true
      · rw [if_pos hs] at hru2;have hru' := hru2;refine ifT hs ?_;refine ⟨_, rfl, .inl ⟨rfl, _, SqL.of rd.top⟩, _, rfl, _, rfl, piece, rfl, zt (by omega), zt (by show 1 ≤ _; decide), fun r hr' => ?_⟩;refine zc (upd _ r _) rfl hr' fun H5 n5 x5 => ?_
        have nar : ap ≠ r := zy rd.top hr';have npr : pp ≠ r := zy rd.hp hr';have nir : pl ≠ r := zy rd.hi hr';have nrr : r ∉ rs := fun hm => by
          have hh : ∀ {H : Hp} {rs : List Addr} {st : Stack}, FrAt H rs st → r ∈ rs → H r ≠ none := fun h => by
            induction h with
            | nil => intro z; cases z
            | cons h1 _ _ ih =>
              intro z;rcases List.mem_cons.mp z with e | z
              · rw [e, h1]; simp
              · exact ih z
          exact hh rd.fr hm hr'
        have t5 := n5 _ _ rd.top;have hlen := rd.fr.len;refine ⟨ap, _, _, rfl, rfl, t5, ?_, ?_⟩
        · rw [List.length_map, List.length_reverse];have : ∀ {st st' : Stack} {ps : List Str}, yF st ps = some st' → st'.length ≤ st.length + ps.length := fun {st st' ps} h => by
            induction ps generalizing st with
            | nil => cases h; exact Nat.le_refl _
            | cons p ps ih =>
              unfold yF at h;cases e : jS st p with
              | none => rw [e] at h; cases h
              | some s2 =>
                rw [e] at h;have h2 := ih h;have h3 : s2.length ≤ st.length + 1 := by
                  unfold jS at e;split at e
                  · cases e; simp
                  · split at e
                    · cases e
                    · split at e
                      · cases e
                      · rename_i hd;cases e;have := congrArg List.length hd;rw [List.length_drop, List.length_cons] at this;rw [List.length_cons];omega
                rw [List.length_cons];omega
          have := this hru;rw [List.length_take, List.length_nil] at this;exact jj (by omega)
        · refine ⟨r :: rs, _, _, _, rfl, ⟨(rd.same.trans n5).put hap, ?_, ?_, ?_, ?_, List.nodup_cons.mpr ⟨nrr, rd.nd⟩, ?_, ?_, ?_, ?_, ?_⟩, hru'⟩
          · rw [zU, List.reverse_cons, List.map_append]
            rfl
          · rw [zO nap.symm]; exact n5 _ _ rd.hp
          · rw [zO nal.symm]; exact n5 _ _ rd.hi
          · refine FrAt.put (.cons x5 .nil (rd.fr.same n5)) t5 ?_;intro z;rcases List.mem_cons.mp z with e | z
            · exact nar e
            · exact rd.na z
          · intro z;rcases List.mem_cons.mp z with e | z
            · exact nar e
            · exact rd.na z
          · intro z;rcases List.mem_cons.mp z with e | z
            · exact npr e
            · exact rd.np z
          · intro z;rcases List.mem_cons.mp z with e | z
            · exact nir e
            · exact rd.ni z
          · intro z hz;rcases List.mem_cons.mp hz with e | hz
            · rw [e]; exact rd.same.free hr'
            · exact rd.fresh z hz
          · intro f' hf';rcases List.mem_cons.mp hf' with e | hf'
            · rw [e];exact ⟨Nat.succ_pos _, (fun t ht => nomatch ht), by have := z4a piece; show (Txt.slice piece (some 1) none).length ≤ _; omega, hasc piece hpm⟩
            · exact ⟨Nat.lt_succ_of_lt (rd.ok f' hf').1, (rd.ok f' hf').2⟩
      · rw [if_neg hs] at hru2 failN;refine ifF (by simpa using hs) ?_;have hb := z3q piece;have rok : z9L 900000 st := fun f' hf' => ⟨by have := (rd.ok f' hf').1; omega, (rd.ok f' hf').2⟩
        refine ⟨_, rfl, _, rfl, ap, piece, rs, st, rfl, rd.top, rd.na, rd.fr, rok, by omega, ?_⟩;cases hlp : yo (jA piece) st (.s (baseOf piece)) with
        | none =>
          rw [failN (by rw [hlp])] at q;exact fun H5 k5 => q _ fun b o e => k5 b o (zy e hap) (rd.same b o e)
        | some tt =>
          have htsh : okT tt := z53 hlp (show (baseOf piece).length ≤ 900000 by omega);intro v' H5 k5 a5 t5;have same5 : zM H H5 := fun b o e => k5 b o (zy e hap) (rd.same b o e)
          cases hdr : st.drop (jA piece) with
          | nil =>
            rw [failN (by rw [hlp]; simp only [hdr])] at q;have fd := (rd.fr.kp k5 rd.top rd.na).drop (jA piece);rw [hdr] at fd;generalize rs.drop (jA piece) = rs5 at fd a5;cases fd;refine ⟨_, rfl, _, .inl ⟨_, SqL.of a5, rfl⟩, ?_⟩;refine ifT (by rfl) ?_;exact ⟨zt (by show 1 ≤ _; decide), q _ same5⟩
          | cons fr0 rest =>
            obtain ⟨w0, ts0⟩ := fr0;have hru' : yF [] (init.take (i + 1)) = some ((w0, ts0 ++ [tt]) :: rest) := by
              rw [hru2, hlp];simp only [hdr]
            have fd := (rd.fr.kp k5 rd.top rd.na).drop (jA piece);have hsub : ∀ z ∈ rs.drop (jA piece), z ∈ rs := fun z hz => List.mem_of_mem_drop hz
            have nd5 : (rs.drop (jA piece)).Nodup := rd.nd.sublist (List.drop_sublist _ _);rw [hdr] at fd;generalize rs.drop (jA piece) = rs5 at fd hsub nd5 a5;cases fd with
            | cons h1 h2 h3 =>
              rename_i r0 vs0 rs0;have nr0 : r0 ∉ rs0 := (List.nodup_cons.mp nd5).1;have m0 := hsub r0 List.mem_cons_self;have na0 : ap ≠ r0 := fun e => rd.na (e ▸ m0)
              refine ⟨_, rfl, _, .inl ⟨_, SqL.of a5, rfl⟩, ?_⟩;refine ifF (by rw [List.reverse_cons, List.map_append]; simp) ?_;have a5' : H5 ap = some (.lst (rs0.reverse.map V.ref ++ [V.ref r0])) := by rw [a5, List.reverse_cons, List.map_append]; rfl
              have hol := rd.ok (w0, ts0) (List.mem_of_mem_drop (i := jA piece) (by rw [hdr]; exact List.mem_cons_self));have hvl := h2.len;refine ⟨_, rfl, _, rfl, ap, _, _, _, rfl, rfl, SqL.of a5', z3M _ _, .inl ⟨rfl, _, SqL.of h1⟩, _, rfl, r0, _, _, rfl, rfl, h1, jj ?_, ?_⟩
              · have := hol.1;simp only at this;rw [List.length_cons];omega
              refine ⟨r0 :: rs0, _, _, _, rfl, ⟨same5.put (rd.fresh r0 m0), ?_, ?_, ?_, ?_, nd5, ?_, ?_, ?_, ?_, ?_⟩, hru'⟩
              · rw [zO na0]; exact a5
              · rw [zO (show pp ≠ r0 from fun e => rd.np (by rw [e]; exact m0))]; exact k5 _ _ nap.symm rd.hp
              · rw [zO (show pl ≠ r0 from fun e => rd.ni (by rw [e]; exact m0))]; exact k5 _ _ nal.symm rd.hi
              · refine .cons (vs := vs0 ++ [v']) ?_ ?_ (h3.put h1 nr0)
                · rw [zU]; rfl
                · exact (h2.mono (z1A h1)).snoc (t5.mono (z1A h1))
              · exact fun z => rd.na (hsub _ z)
              · exact fun z => rd.np (hsub _ z)
              · exact fun z => rd.ni (hsub _ z)
              · exact fun z hz => rd.fresh z (hsub z hz)
              · intro f' hf';rcases List.mem_cons.mp hf' with e | hf'
                · rw [e];refine ⟨?_, fun z hz => ?_, hol.2.2⟩
                  · have := hol.1;simp only [List.length_append, List.length_singleton] at this ⊢;omega
                  · rcases List.mem_append.mp hz with hz | hz
                    · exact hol.2.1 z hz
                    · rw [List.mem_singleton.mp hz]; exact htsh
                · have := rd.ok f' (List.mem_of_mem_drop (i := jA piece) (by rw [hdr]; exact List.mem_cons_of_mem _ hf'));exact ⟨Nat.lt_succ_of_lt this.1, this.2⟩
  · rintro σ H4 ⟨rs, st, o3, o4, rfl, rd, hru⟩;rw [List.length_map, List.take_length] at hru;rw [hru] at hres;have hb := z3q last;have hll := hshort last (List.mem_append_right _ (List.mem_singleton.mpr rfl));have rok : z9L 900000 st := fun f' hf' => ⟨by have := (rd.ok f' hf').1; rw [List.length_map] at this; omega, (rd.ok f' hf').2⟩
    refine ⟨_, rfl, _, rfl, _, rfl, pp, _, _, _, rfl, rfl, SqL.of rd.hp, z3M _ _, ap, last, rs, st, rfl, rd.top, rd.na, rd.fr, rok, by omega, ?_⟩;cases hlp : yo (jA last) st (.s (baseOf last)) with
    | none =>
      simp only [hlp] at hres;rw [hres] at q;exact fun H5 k5 => q _ fun b o e => k5 b o (zy e hap) (rd.same b o e)
    | some t =>
      simp only [hlp] at hres;intro v' H5 k5 a5 t5;have same5 : zM H H5 := fun b o e => k5 b o (zy e hap) (rd.same b o e)
      have fd := (rd.fr.kp k5 rd.top rd.na).drop (jA last);cases hdr : st.drop (jA last) with
      | nil =>
        simp only [hdr] at hres;rw [hres] at q;rw [hdr] at fd;generalize rs.drop (jA last) = rs5 at fd a5;cases fd;refine ⟨_, rfl, _, .inl ⟨_, SqL.of a5, rfl⟩, ?_⟩;refine ifF (by rfl) ?_;refine ⟨_, rfl, "question", v', t, rfl, t5, z53 hlp (show (baseOf last).length ≤ 900000 by omega), by decide +kernel, ?_⟩;cases htk : je "question" t with
        | none => rw [htk] at q; exact fun H6 n6 => q _ (same5.trans n6)
        | some t' => rw [htk] at q; exact fun v2 H6 n6 h6 => q v2 H6 (same5.trans n6) h6
      | cons fr0 rest =>
        obtain ⟨w0, ts0⟩ := fr0;simp only [hdr] at hres;rw [hres] at q;rw [hdr] at fd;generalize rs.drop (jA last) = rs5 at fd a5;cases fd with
        | cons h1 h2 h3 =>
          refine ⟨_, rfl, _, .inl ⟨_, SqL.of a5, rfl⟩, ?_⟩;refine ifT (by rw [List.reverse_cons, List.map_append]; simp) ?_;exact ⟨zt (by show 1 ≤ _; decide), q _ same5⟩

structure Elem where
  toks : Nat → List Str
  raw : Tr
def brk (x : Str) (k : Nat) : Str := tx (x.cps.toList ++ List.replicate k 41)
def Good (e : Elem) : Prop := ∀ (k : Nat) (st : Stack), k ≤ st.length → ∃ pre last st1, e.toks k = pre ++ [last] ∧ yF st pre = some st1 ∧ Txt.startswith last "(" = false ∧ yo (jA last) st1 (.s (baseOf last)) = yo k st e.raw ∧ st1.drop (jA last) = st.drop k
theorem z6S {st s2 : Stack} {ps qs : List Str} (h : yF st ps = some s2) : yF st (ps ++ qs) = yF s2 qs := by
  induction ps generalizing st with
  | nil => cases h; rfl
  | cons a ps ih =>
    unfold yF at h
    show (match jS st a with | some s2 => yF s2 (ps ++ qs) | none => none) = _
    cases e : jS st a with
    | none => rw [e] at h; cases h
    | some s3 =>
      rw [e] at h;exact ih h
theorem z0Q : ("(" : Str) = ⟨#[40]⟩ := by decide +kernel
theorem z36 : (")" : Str) = ⟨#[41]⟩ := by decide +kernel
theorem blank_eq : (" " : Str) = ⟨#[32]⟩ := by decide +kernel
def z2d (x : Str) : Prop := x.cps.toList ≠ [] ∧ ∀ c ∈ x.cps.toList, c ≠ 40 ∧ c ≠ 41 ∧ c ≠ 32
def yj (x : Str) : Elem := ⟨fun k => [brk x k], .s x⟩
theorem z5G {x : Str} (h : z2d x) (k : Nat) : baseOf (brk x k) = x := by
  unfold baseOf;have := z2l (g := (")" : Str).cps.contains) (x := brk x k) (a := x.cps.toList) (b := List.replicate k 41) (by simp [brk]) (fun c hc => by rw [(List.mem_replicate.mp hc).2]; decide +kernel) (fun c hc => by
    have := (h.2 c (List.mem_of_getLast? hc)).2.1;rw [z36]
    simpa using this)
  rw [z2W] at this;exact this
theorem z8b {x : Str} (h : z2d x) (k : Nat) : jA (brk x k) = k := by
  unfold jA;rw [z5G h, len_list, len_list];simp [brk]
theorem jJ {x : Str} (h : z2d x) : Good (yj x) := by
  intro k st hk;refine ⟨[], brk x k, st, rfl, rfl, ?_, ?_, ?_⟩
  · rw [z0Q, kC];apply decide_eq_false;cases q : x.cps.toList with
    | nil => exact absurd q h.1
    | cons c r =>
      have := (h.2 c (by rw [q]; exact List.mem_cons_self)).1;simp [brk, q];exact this
  · rw [z8b h, z5G h]
    rfl
  · rw [z8b h]
def brkE (W : Str) (es : List Elem) (e : Elem) (t : Tr) : Elem := ⟨fun k => (("(" : Str) ++ W) :: (es.flatMap (fun x : Elem => x.toks 0) ++ e.toks (k + 1)), t⟩
theorem z7T (st : Stack) (W : Str) : jS st (("(" : Str) ++ W) = some ((W, []) :: st) := by
  have e : (("(" : Str) ++ W).cps.toList = 40 :: W.cps.toList := by rw [app_list, z0Q]; rfl
  have hs : Txt.startswith (("(" : Str) ++ W) "(" = true := by
    have := kC (("(" : Str) ++ W) 40;rw [← z0Q, e] at this;rw [this]
    rfl
  unfold jS;rw [if_pos hs, z1y e, z2W]
theorem z4e (W : Str) (st : Stack) : ∀ (es : List Elem) (xs : List Tr), (∀ e ∈ es, Good e) → yF ((W, xs) :: st) (es.flatMap fun x : Elem => x.toks 0) = some ((W, xs ++ es.map (·.raw)) :: st)
  | [], xs, _ => by
    show some _ = some _
    rw [List.map_nil, List.append_nil]
  | e :: es, xs, h => by
    obtain ⟨pre, last, st1, e1, e2, e3, e4, e5⟩ := h e List.mem_cons_self 0 ((W, xs) :: st) (Nat.zero_le _);rw [List.flatMap_cons, e1];have h1 : yF ((W, xs) :: st) (pre ++ [last]) = some ((W, xs ++ [e.raw]) :: st) := by
      rw [z3n e2];unfold jS;rw [if_neg (by rw [e3]; simp), e4, e5]
      rfl
    rw [z6S h1, z4e W st es (xs ++ [e.raw]) fun z hz => h z (List.mem_cons_of_mem _ hz), List.map_cons, List.append_assoc]
    rfl
theorem yw {W : Str} {es : List Elem} {e : Elem} {t : Tr} (h1 : ∀ x ∈ es, Good x) (h2 : Good e) (hm : kg W (es.map (·.raw) ++ [e.raw]) = some t) : Good (brkE W es e t) := by
  intro k st hk;obtain ⟨pre, last, st1, e1, e2, e3, e4, e5⟩ := h2 (k + 1) ((W, es.map (·.raw)) :: st) (by rw [List.length_cons]; omega);refine ⟨(("(" : Str) ++ W) :: (es.flatMap (fun x : Elem => x.toks 0) ++ pre), last, st1, ?_, ?_, e3, ?_, ?_⟩
  · show (("(" : Str) ++ W) :: (es.flatMap (fun x : Elem => x.toks 0) ++ e.toks (k + 1)) = _
    rw [e1, List.cons_append, List.append_assoc]
  · show (match jS st (("(" : Str) ++ W) with | some s2 => yF s2 (es.flatMap (fun x : Elem => x.toks 0) ++ pre) | none => none) = _
    rw [z7T]
    show yF ((W, []) :: st) (es.flatMap (fun x : Elem => x.toks 0) ++ pre) = _
    rw [z6S (z4e W st es [] h1), List.nil_append];exact e2
  · rw [e4]
    show (match kg W (es.map (·.raw) ++ [e.raw]) with | some t' => yo k st t' | none => none) = _
    rw [hm]
    rfl
  · rw [e5]
    rfl
def sp (ps : List Str) : List Nat := ps.flatMap fun p => 32 :: p.cps.toList
theorem z1b (a b : List Str) : sp (a ++ b) = sp a ++ sp b := by unfold sp; rw [List.flatMap_append]
theorem z2Y {ps : List Str} (h : ps ≠ []) : sp ps = 32 :: (Str.join " " ps).cps.toList := by
  cases ps with
  | nil => exact absurd rfl h
  | cons a r =>
    rw [blank_eq, join_list]
    rfl
def z0t (e : Elem) (x : Str) : Prop := ∀ k, e.toks k ≠ [] ∧ sp (e.toks k) = 32 :: (x.cps.toList ++ List.replicate k 41) ∧ ∀ p ∈ e.toks k, 32 ∉ p.cps.toList
theorem jI {x : Str} (h : z2d x) : z0t (yj x) x := fun k => by
  refine ⟨by simp [yj], by simp [yj, sp, brk], fun p hp => ?_⟩;rw [List.mem_singleton.mp hp];intro hc;have hc' : 32 ∈ x.cps.toList ++ List.replicate k 41 := by simpa [brk] using hc
  rcases List.mem_append.mp hc' with m | m
  · exact (h.2 32 m).2.2 rfl
  · exact absurd (List.mem_replicate.mp m).2 (by decide)
theorem ym {W y ye : Str} {ex : List (Elem × Str)} {e : Elem} {t : Tr} (hW : 32 ∉ W.cps.toList) (h1 : ∀ x ∈ ex, z0t x.1 x.2) (h2 : z0t e ye)
    (hy : y.cps.toList = 40 :: (W.cps.toList ++ (sp (ex.map (·.2)) ++ (32 :: (ye.cps.toList ++ [41]))))) : z0t (brkE W (ex.map (·.1)) e t) y := fun k => by
  have e0 : (("(" : Str) ++ W).cps.toList = 40 :: W.cps.toList := by rw [app_list, z0Q]; rfl
  obtain ⟨a1, a2, a3⟩ := h2 (k + 1);have es : sp ((ex.map (·.1)).flatMap fun x => x.toks 0) = sp (ex.map (·.2)) := by
    clear hy
    induction ex with
    | nil => rfl
    | cons x r ih =>
      rw [List.map_cons, List.flatMap_cons, z1b, ih fun z hz => h1 z (List.mem_cons_of_mem _ hz), (h1 x List.mem_cons_self 0).2.1];simp [sp]
  refine ⟨by simp [brkE], ?_, fun p hp => ?_⟩
  · show sp ((("(" : Str) ++ W) :: ((ex.map (·.1)).flatMap (fun x : Elem => x.toks 0) ++ e.toks (k + 1))) = _
    have : sp ((("(" : Str) ++ W) :: ((ex.map (·.1)).flatMap (fun x : Elem => x.toks 0) ++ e.toks (k + 1))) = 32 :: ((("(" : Str) ++ W).cps.toList ++ sp ((ex.map (·.1)).flatMap (fun x : Elem => x.toks 0) ++ e.toks (k + 1))) := by
      unfold sp;rw [List.flatMap_cons]
      rfl
    rw [this, e0, z1b, es, a2, hy, List.replicate_succ];simp
  · rcases List.mem_cons.mp hp with e | hp
    · rw [e, e0];intro m;rcases List.mem_cons.mp m with z | m
      · cases z
      · exact hW m
    · rcases List.mem_append.mp hp with m | m
      · obtain ⟨x, hx, hpx⟩ := List.mem_flatMap.mp m;obtain ⟨z, hz, rfl⟩ := List.mem_map.mp hx;exact (h1 z hz 0).2.2 p hpx
      · exact a3 p m

def trS : Side → Tr
  | .nm s => .s s
  | .nu i => .i i
def tl (l : List Tr) : Tr := .t (Trs.of l)
def trC : Cond → Tr
  | .less a b => tl [.s "less", trS a, trS b]
  | .same a b => tl [.s "same", trS a, trS b]
  | .no c => tl [.s "not", trC c]
  | .an c d => tl [.s "and", trC c, trC d]
  | .or c d => tl [.s "or", trC c, trC d]
def trQ : Qn → Tr
  | .table n => tl [.s "table", .s n]
  | .pick c q => tl [.s "pick", trC c, trQ q]
  | .cols ns q => tl [.s "cols", tl (ns.map Tr.s), trQ q]
  | .pair q r => tl [.s "pair", trQ q, trQ r]
  | .join a b q r => tl [.s "join", .s a, .s b, trQ q, trQ r]
  | .both q r => tl [.s "both", trQ q, trQ r]
  | .first n q => tl [.s "first", .i n, trQ q]
  | .group a b n s q => tl [.s "group", .s a, .s b, .s n, .s s, trQ q]
  | .sort a q => tl [.s "sort", .s a, trQ q]
def zbs : Qn → Tr
  | .table n => .s n
  | q => trQ q
theorem yC {H : Hp} {l : List Tr} {p : Addr} {vs : List V} (hp : H p = some (.tup vs)) (h : AllAt H l vs) : jN H (tl l) (.ref p) := by
  unfold tl;simp only [jN];exact ⟨p, vs, rfl, hp, h.trs⟩
theorem kj {H : Hp} (x : Str) : jN H (.s x) (.str x) := by simp only [jN]
theorem zak {H : Hp} (n : Int) : jN H (.i n) (.int n) := by simp only [jN]
def z2J : Side → Prop
  | .nm s => zZ s = true
  | .nu i => i ∈ nums
def z1F : Cond → Prop
  | .less a b => z2J a ∧ z2J b
  | .same a b => z2J a ∧ z2J b
  | .no c => z1F c
  | .an c d => z1F c ∧ z1F d
  | .or c d => z1F c ∧ z1F d
def km : Qn → Prop
  | .table n => zZ n = true
  | .pick c q => z1F c ∧ km q
  | .cols ns q => ns ≠ [] ∧ (∀ n ∈ ns, zZ n = true) ∧ km q
  | .pair q r => km q ∧ km r
  | .join a b q r => zZ a = true ∧ zZ b = true ∧ km q ∧ km r
  | .both q r => km q ∧ km r
  | .first n q => n ∈ kG ∧ km q
  | .group a b n s q => zZ a = true ∧ zZ b = true ∧ zZ n = true ∧ zZ s = true ∧ km q
  | .sort a q => zZ a = true ∧ km q
section
variable {th : Str → List Str} {tr : Str → List (List Int)}
theorem z98 (T : TabOk th tr) : ∀ n ∈ tabs, ∀ s ∈ th n, zZ s = true := by
  have hl : ∀ s ∈ letters, zZ s = true := by decide +kernel
  have ht : ∀ s ∈ th "t", zZ s = true := by
    obtain ⟨m, _, _, e⟩ := T.t;rw [e];exact fun s hs => hl s (List.mem_of_mem_take hs)
  intro n hn;have hn' : n = "t" ∨ n = "tuvtuvtuvw" ∨ n = "tuvtuvtuvx" ∨ n = "tuvz" := by
    unfold tabs at hn
    simpa using hn
  rcases hn' with rfl | rfl | rfl | rfl
  · exact ht
  · rw [T.w]; decide +kernel
  · rw [T.x]; decide +kernel
  · rw [T.z]; exact ht
theorem z1i : ∀ g ∈ signs, zZ (("n" : Str) ++ g) = true ∧ zZ (("s" : Str) ++ g) = true := by decide +kernel
theorem jv (T : TabOk th tr) : ∀ {q : Qn}, okQ th q → ∀ s ∈ zo th q, zZ s = true
  | .table n, h => z98 T n h
  | .pick _ q, h => jv T (q := q) h.2.2
  | .cols ns q, h => fun s hs => jv T (q := q) h.2.2.2 s (h.2.2.1 s hs)
  | .pair q r, h => fun s hs => by
    rcases List.mem_append.mp hs with hs | hs
    · exact jv T (q := q) h.2.1 s hs
    · exact jv T (q := r) h.2.2 s hs
  | .join a b q r, h => fun s hs => by
    rcases List.mem_append.mp hs with hs | hs
    · exact jv T (q := q) h.2.2.2.1 s hs
    · exact jv T (q := r) h.2.2.2.2 s hs
  | .both q r, h => jv T (q := q) h.2.1
  | .first _ q, h => jv T (q := q) h.2
  | .group a b n s q, h => fun x hx => by
    obtain ⟨ha, _, ⟨g, hg, rfl, rfl⟩, _, _, hq⟩ := h;have hx' : x ∈ [a, ("n" : Str) ++ g, ("s" : Str) ++ g] := hx;simp only [List.mem_cons, List.not_mem_nil, or_false] at hx';rcases hx' with rfl | rfl | rfl
    · exact jv T (q := q) hq _ ha
    · exact (z1i g hg).1
    · exact (z1i g hg).2
  | .sort _ q, h => jv T (q := q) h.2
theorem z1h {hs : List Str} (hn : ∀ n ∈ hs, zZ n = true) : ∀ {a : Side}, Side.small hs a → z2J a
  | .nm s, h => hn s h
  | .nu i, h => h
theorem z08 {hs : List Str} (hn : ∀ n ∈ hs, zZ n = true) : ∀ {c : Cond}, jD hs c → z1F c
  | .less a b, h => ⟨z1h hn h.1, z1h hn h.2⟩
  | .same a b, h => ⟨z1h hn h.1, z1h hn h.2⟩
  | .no c, h => z08 hn (c := c) h
  | .an c d, h => ⟨z08 hn h.1, z08 hn h.2⟩
  | .or c d, h => ⟨z08 hn h.1, z08 hn h.2⟩
theorem kq (T : TabOk th tr) : ∀ {q : Qn}, okQ th q → km q
  | .table n, h => by
    have : ∀ n ∈ tabs, zZ n = true := by decide +kernel
    exact this n h
  | .pick c q, h => ⟨z08 (jv T h.2.2) h.1, kq T h.2.2⟩
  | .cols ns q, h => ⟨h.1, fun n hn => jv T h.2.2.2 n (h.2.2.1 n hn), kq T h.2.2.2⟩
  | .pair q r, h => ⟨kq T h.2.1, kq T h.2.2⟩
  | .join a b q r, h => ⟨jv T h.2.2.2.1 a h.1, jv T h.2.2.2.2 b h.2.1, kq T h.2.2.2.1, kq T h.2.2.2.2⟩
  | .both q r, h => ⟨kq T h.2.1, kq T h.2.2⟩
  | .first n q, h => ⟨h.1, kq T h.2⟩
  | .group a b n s q, h => by
    obtain ⟨ha, hb, ⟨g, hg, rfl, rfl⟩, _, _, hq⟩ := h;exact ⟨jv T hq a ha, jv T hq b hb, (z1i g hg).1, (z1i g hg).2, kq T hq⟩
  | .sort a q, h => ⟨jv T h.2 a h.1, kq T h.2⟩
end

theorem jk {x : Str} (h : zZ x = true) : z2d x := by
  unfold zZ at h;rw [Bool.and_eq_true, List.all_eq_true] at h;refine ⟨fun e => ?_, fun c hc => ?_⟩
  · have hx : x = "" := yS (by rw [e]; decide +kernel);have h1 := h.1;rw [decide_eq_true hx] at h1;cases h1
  · have h2 : c ∈ lowers.cps.toList := by simpa using h.2 c hc
    have h3 : ∀ c ∈ lowers.cps.toList, c ≠ 40 ∧ c ≠ 41 ∧ c ≠ 32 := by decide +kernel
    exact h3 c h2
theorem z2o : ∀ i ∈ nums, zZ (toString i) = false ∧ jK (toString i) = true ∧ z1w (toString i) = i ∧ (toString i : Str).cps.toList ≠ [] ∧ ∀ c ∈ (toString i : Str).cps.toList, c ≠ 40 ∧ c ≠ 41 ∧ c ≠ 32 := by decide +kernel
theorem z0j : ∀ i ∈ kG, zZ (toString i) = false ∧ jK (toString i) = true ∧ z1w (toString i) = i ∧ Txt.startswith (toString i) "-" = false ∧ (toString i : Str).cps.toList ≠ [] ∧ ∀ c ∈ (toString i : Str).cps.toList, c ≠ 40 ∧ c ≠ 41 ∧ c ≠ 32 := by decide +kernel
theorem z16 (form x : Str) : je form (.s x) = if zZ x = true then (if form = "question" then some (.t (.cons (.s "table") (.cons (.s x) .nil))) else if form = "name" ∨ form = "side" then some (.s x) else none)
    else if jK x = true then (if form = "side" ∨ (form = "size" ∧ Txt.startswith x "-" = false) then some (.i (z1w x)) else none) else none := by simp only [je]
theorem z5v (form w : Str) (r : Trs) : je form (.t (.cons (.s w) r)) = if form = z21 w then some (.t (.cons (.s w) r)) else none := by simp only [je]
theorem n_q : ("name" : Str) ≠ "question" := by decide +kernel
theorem s_q : ("side" : Str) ≠ "question" := by decide +kernel
theorem yV {x : Str} (h : zZ x = true) : je "name" (.s x) = some (.s x) := by
  rw [z16, if_pos h, if_neg n_q, if_pos (.inl rfl)]
theorem z0N {a : Side} (h : z2J a) : je "side" (.s (Side.txt a)) = some (trS a) := by
  cases a with
  | nm s =>
    show je "side" (.s s) = some (.s s)
    have h : zZ s = true := h;rw [z16, if_pos h, if_neg s_q, if_pos (.inr rfl)]
  | nu i =>
    obtain ⟨h1, h2, h3, _⟩ := z2o i h
    show je "side" (.s (toString i)) = some (.i i)
    rw [z16, if_neg (by rw [h1]; simp), if_pos h2, if_pos (.inl rfl), h3]
theorem z65 {n : Int} (h : n ∈ kG) : je "size" (.s (toString n)) = some (.i n) := by
  obtain ⟨h1, h2, h3, h4, _⟩ := z0j n h;rw [z16, if_neg (by rw [h1]; simp), if_pos h2, if_pos (.inr ⟨rfl, h4⟩), h3]
theorem z1t (c : Cond) : je "condition" (trC c) = some (trC c) := by
  cases c <;> exact (z5v _ _ _).trans (if_pos (by decide +kernel))
theorem z9R {q : Qn} (h : km q) : je "question" (zbs q) = some (trQ q) := by
  cases q with
  | table n =>
    have h : zZ n = true := h
    show je "question" (.s n) = _
    rw [z16, if_pos h, if_pos rfl]
    rfl
  | _ => exact (z5v _ _ _).trans (if_pos (by decide +kernel))
theorem ku {W : Str} {ts ks : List Tr} {fs : List Str} (hW : W ≠ "cols") (hf0 : kw W 0 = some fs) (hk : jY fs ts = some ks) : kg W ts = some (tl (.s W :: ks)) := by
  have hf : kw W ts.length = some fs := by
    unfold kw at hf0 ⊢;rw [if_neg hW] at hf0 ⊢;exact hf0
  unfold kg;rw [hf];simp only;rw [if_pos (z1X hk).1, hk];simp only;rw [if_neg hW]
  rfl
theorem z0u {f : Str} {a a' : Tr} (h : je f a = some a') : jY [f] [a] = some [a'] := by simp only [jY, h]
theorem kept_cons {f : Str} {fs : List Str} {a a' : Tr} {ts ks : List Tr} (h : je f a = some a') (hr : jY fs ts = some ks) : jY (f :: fs) (a :: ts) = some (a' :: ks) := by simp only [jY, h, hr]
theorem z7r {ns : List Str} (h : ∀ n ∈ ns, zZ n = true) {a a' : Tr} (ha : je "question" a = some a') : jY (List.replicate ns.length ("name" : Str) ++ [("question" : Str)]) (ns.map Tr.s ++ [a]) = some (ns.map Tr.s ++ [a']) := by
  induction ns with
  | nil => exact z0u ha
  | cons n ns ih => exact kept_cons (yV (h n List.mem_cons_self)) (ih fun m hm => h m (List.mem_cons_of_mem _ hm))
theorem z86 {ns : List Str} (h0 : ns ≠ []) (h : ∀ n ∈ ns, zZ n = true) {a a' : Tr} (ha : je "question" a = some a') : kg "cols" (ns.map Tr.s ++ [a]) = some (tl [.s "cols", tl (ns.map Tr.s), a']) := by
  have hl : (ns.map Tr.s ++ [a]).length = ns.length + 1 := by rw [List.length_append, List.length_map]; rfl
  have hp : 0 < ns.length := List.length_pos_iff.mpr h0;have hf : kw "cols" (ns.map Tr.s ++ [a]).length = some (List.replicate ns.length ("name" : Str) ++ [("question" : Str)]) := by
    unfold kw;rw [if_pos rfl, hl, show max (ns.length + 1 - 1) 1 = ns.length by omega]
  unfold kg;rw [hf];simp only;rw [if_pos (by rw [hl, List.length_append, List.length_replicate]; rfl), z7r h ha];simp only;rw [if_pos trivial, List.dropLast_concat, List.getLastD_concat]
  rfl
def z40 (a : Side) : Elem := yj (Side.txt a)
def elC : Cond → Elem
  | .less a b => brkE "less" [z40 a] (z40 b) (trC (.less a b))
  | .same a b => brkE "same" [z40 a] (z40 b) (trC (.same a b))
  | .no c => brkE "not" [] (elC c) (trC (.no c))
  | .an c d => brkE "and" [elC c] (elC d) (trC (.an c d))
  | .or c d => brkE "or" [elC c] (elC d) (trC (.or c d))
def elQ : Qn → Elem
  | .table n => yj n
  | .pick c q => brkE "pick" [elC c] (elQ q) (trQ (.pick c q))
  | .cols ns q => brkE "cols" (ns.map yj) (elQ q) (trQ (.cols ns q))
  | .pair q r => brkE "pair" [elQ q] (elQ r) (trQ (.pair q r))
  | .join a b q r => brkE "join" [yj a, yj b, elQ q] (elQ r) (trQ (.join a b q r))
  | .both q r => brkE "both" [elQ q] (elQ r) (trQ (.both q r))
  | .first n q => brkE "first" [yj (toString n)] (elQ q) (trQ (.first n q))
  | .group a b n s q => brkE "group" [yj a, yj b, yj n, yj s] (elQ q) (trQ (.group a b n s q))
  | .sort a q => brkE "sort" [yj a] (elQ q) (trQ (.sort a q))
theorem z1m (c : Cond) : (elC c).raw = trC c := by cases c <;> rfl
theorem z9i (q : Qn) : (elQ q).raw = zbs q := by cases q <;> rfl
theorem kz {a : Side} (h : z2J a) : z2d (Side.txt a) := by
  cases a with
  | nm s => exact jk h
  | nu i => exact ⟨(z2o i h).2.2.2.1, (z2o i h).2.2.2.2⟩
theorem one {P : Elem → Prop} {a : Elem} (h : P a) : ∀ x ∈ [a], P x := fun x hx => by rw [List.mem_singleton.mp hx]; exact h
theorem z0r : ∀ {c : Cond}, z1F c → Good (elC c)
  | .less a b, h => yw (one (jJ (kz h.1))) (jJ (kz h.2)) (ku (by decide +kernel) (fs := ["side", "side"]) (by decide +kernel) (kept_cons (z0N h.1) (z0u (z0N h.2))))
  | .same a b, h => yw (one (jJ (kz h.1))) (jJ (kz h.2)) (ku (by decide +kernel) (fs := ["side", "side"]) (by decide +kernel) (kept_cons (z0N h.1) (z0u (z0N h.2))))
  | .no c, h => yw (fun x hx => by cases hx) (z0r (c := c) h) (ku (by decide +kernel) (fs := ["condition"]) (by decide +kernel) (by rw [z1m]; exact z0u (z1t c)))
  | .an c d, h => yw (one (z0r h.1)) (z0r h.2) (ku (by decide +kernel) (fs := ["condition", "condition"]) (by decide +kernel) (by rw [z1m]; exact kept_cons (by show je _ (elC c).raw = _; rw [z1m]; exact z1t c) (z0u (z1t d))))
  | .or c d, h => yw (one (z0r h.1)) (z0r h.2) (ku (by decide +kernel) (fs := ["condition", "condition"]) (by decide +kernel) (by rw [z1m]; exact kept_cons (by show je _ (elC c).raw = _; rw [z1m]; exact z1t c) (z0u (z1t d))))
theorem tq {q : Qn} (h : km q) : je "question" (elQ q).raw = some (trQ q) := by rw [z9i]; exact z9R h
theorem tc (c : Cond) : je "condition" (elC c).raw = some (trC c) := by rw [z1m]; exact z1t c
theorem yH : ∀ {q : Qn}, km q → Good (elQ q)
  | .table n, h => jJ (jk h)
  | .pick c q, h => yw (one (z0r h.1)) (yH h.2) (ku (by decide +kernel) (fs := ["condition", "question"]) (by decide +kernel) (kept_cons (tc c) (z0u (tq h.2))))
  | .cols ns q, h => yw (fun x hx => by
      obtain ⟨n, hn, rfl⟩ := List.mem_map.mp hx;exact jJ (jk (h.2.1 n hn))) (yH h.2.2) (by
      have e : (ns.map yj).map (·.raw) = ns.map Tr.s := by rw [List.map_map]; rfl
      rw [e];exact z86 h.1 h.2.1 (tq h.2.2))
  | .pair q r, h => yw (one (yH h.1)) (yH h.2) (ku (by decide +kernel) (fs := ["question", "question"]) (by decide +kernel) (kept_cons (tq h.1) (z0u (tq h.2))))
  | .join a b q r, h => yw (fun x hx => by
      simp only [List.mem_cons, List.not_mem_nil, or_false] at hx;rcases hx with rfl | rfl | rfl
      · exact jJ (jk h.1)
      · exact jJ (jk h.2.1)
      · exact yH h.2.2.1) (yH h.2.2.2) (ku (by decide +kernel) (fs := ["name", "name", "question", "question"]) (by decide +kernel) (kept_cons (yV h.1) (kept_cons (yV h.2.1) (kept_cons (tq h.2.2.1) (z0u (tq h.2.2.2))))))
  | .both q r, h => yw (one (yH h.1)) (yH h.2) (ku (by decide +kernel) (fs := ["question", "question"]) (by decide +kernel) (kept_cons (tq h.1) (z0u (tq h.2))))
  | .first n q, h => yw (one (jJ ⟨(z0j n h.1).2.2.2.2.1, (z0j n h.1).2.2.2.2.2⟩)) (yH h.2) (ku (by decide +kernel) (fs := ["size", "question"]) (by decide +kernel) (kept_cons (z65 h.1) (z0u (tq h.2))))
  | .group a b n s q, h => yw (fun x hx => by
      simp only [List.mem_cons, List.not_mem_nil, or_false] at hx;rcases hx with rfl | rfl | rfl | rfl
      · exact jJ (jk h.1)
      · exact jJ (jk h.2.1)
      · exact jJ (jk h.2.2.1)
      · exact jJ (jk h.2.2.2.1)) (yH h.2.2.2.2) (ku (by decide +kernel) (fs := ["name", "name", "name", "name", "question"]) (by decide +kernel) (kept_cons (yV h.1) (kept_cons (yV h.2.1) (kept_cons (yV h.2.2.1) (kept_cons (yV h.2.2.2.1) (z0u (tq h.2.2.2.2)))))))
  | .sort a q, h => yw (one (jJ (jk h.1))) (yH h.2) (ku (by decide +kernel) (fs := ["name", "question"]) (by decide +kernel) (kept_cons (yV h.1) (z0u (tq h.2))))

theorem kE (x : Str) : sp [x] = 32 :: x.cps.toList := by simp [sp]
theorem z22 (x : Str) (r : List Str) : sp (x :: r) = 32 :: (x.cps.toList ++ sp r) := by simp [sp]
theorem z6r : sp [] = [] := rfl
theorem l41 : (")" : Str).cps.toList = [41] := by decide +kernel
theorem l40 : ("(" : Str).cps.toList = [40] := by decide +kernel
theorem l32 : (" " : Str).cps.toList = [32] := by decide +kernel
theorem z9s : ("(pick " : Str).cps.toList = 40 :: (("pick" : Str).cps.toList ++ [32]) := by decide +kernel
theorem z9n : ("(cols " : Str).cps.toList = 40 :: (("cols" : Str).cps.toList ++ [32]) := by decide +kernel
theorem za6 : ("(pair " : Str).cps.toList = 40 :: (("pair" : Str).cps.toList ++ [32]) := by decide +kernel
theorem za7 : ("(join " : Str).cps.toList = 40 :: (("join" : Str).cps.toList ++ [32]) := by decide +kernel
theorem z9G : ("(both " : Str).cps.toList = 40 :: (("both" : Str).cps.toList ++ [32]) := by decide +kernel
theorem z8q : ("(first " : Str).cps.toList = 40 :: (("first" : Str).cps.toList ++ [32]) := by decide +kernel
theorem z8k : ("(group " : Str).cps.toList = 40 :: (("group" : Str).cps.toList ++ [32]) := by decide +kernel
theorem za2 : ("(sort " : Str).cps.toList = 40 :: (("sort" : Str).cps.toList ++ [32]) := by decide +kernel
theorem z59 {a : Elem} {x : Str} (h : z0t a x) : ∀ z ∈ [(a, x)], z0t z.1 z.2 := fun z hz => by rw [List.mem_singleton.mp hz]; exact h
theorem z0s : ∀ {c : Cond}, z1F c → z0t (elC c) (jH c)
  | .less a b, h => ym (ex := [(z40 a, Side.txt a)]) (by decide +kernel) (z59 (jI (kz h.1))) (jI (kz h.2)) (by simp only [jH, ends, app_list, l40, l41, l32, List.map_cons, List.map_nil, kE]; simp)
  | .same a b, h => ym (ex := [(z40 a, Side.txt a)]) (by decide +kernel) (z59 (jI (kz h.1))) (jI (kz h.2)) (by simp only [jH, ends, app_list, l40, l41, l32, List.map_cons, List.map_nil, kE]; simp)
  | .no c, h => ym (ex := []) (by decide +kernel) (fun z hz => by cases hz) (z0s (c := c) h) (by simp only [jH, app_list, l40, l41, l32, List.map_nil, z6r]; simp)
  | .an c d, h => ym (ex := [(elC c, jH c)]) (by decide +kernel) (z59 (z0s h.1)) (z0s h.2) (by simp only [jH, app_list, l40, l41, l32, List.map_cons, List.map_nil, kE]; simp)
  | .or c d, h => ym (ex := [(elC c, jH c)]) (by decide +kernel) (z59 (z0s h.1)) (z0s h.2) (by simp only [jH, app_list, l40, l41, l32, List.map_cons, List.map_nil, kE]; simp)
theorem yq : ∀ {q : Qn}, km q → z0t (elQ q) (zz q)
  | .table n, h => jI (jk h)
  | .pick c q, h => ym (ex := [(elC c, jH c)]) (by decide +kernel) (z59 (z0s h.1)) (yq h.2) (by simp only [zz, app_list, z9s, l41, l32, List.map_cons, List.map_nil, kE]; simp)
  | .cols ns q, h => by
    have e : ns.map yj = (ns.map fun n => (yj n, n)).map (·.1) := by rw [List.map_map]; rfl
    have e2 : (ns.map fun n => (yj n, n)).map (·.2) = ns := by rw [List.map_map]; exact List.map_id _
    show z0t (brkE "cols" (ns.map yj) (elQ q) (trQ (.cols ns q))) _
    rw [e];refine ym (by decide +kernel) (fun z hz => ?_) (yq h.2.2) ?_
    · obtain ⟨n, hn, rfl⟩ := List.mem_map.mp hz;exact jI (jk (h.2.1 n hn))
    · rw [e2, z2Y h.1];simp only [zz, app_list, z9n, l41, l32];simp
  | .pair q r, h => ym (ex := [(elQ q, zz q)]) (by decide +kernel) (z59 (yq h.1)) (yq h.2) (by simp only [zz, app_list, za6, l41, l32, List.map_cons, List.map_nil, kE]; simp)
  | .join a b q r, h => ym (ex := [(yj a, a), (yj b, b), (elQ q, zz q)]) (by decide +kernel) (fun z hz => by
      simp only [List.mem_cons, List.not_mem_nil, or_false] at hz;rcases hz with rfl | rfl | rfl
      · exact jI (jk h.1)
      · exact jI (jk h.2.1)
      · exact yq h.2.2.1) (yq h.2.2.2) (by simp only [zz, app_list, za7, l41, l32, List.map_cons, List.map_nil, z22, z6r]; simp)
  | .both q r, h => ym (ex := [(elQ q, zz q)]) (by decide +kernel) (z59 (yq h.1)) (yq h.2) (by simp only [zz, app_list, z9G, l41, l32, List.map_cons, List.map_nil, kE]; simp)
  | .first n q, h => ym (ex := [(yj (toString n), toString n)]) (by decide +kernel) (z59 (jI ⟨(z0j n h.1).2.2.2.2.1, (z0j n h.1).2.2.2.2.2⟩)) (yq h.2) (by simp only [zz, app_list, z8q, l41, l32, List.map_cons, List.map_nil, kE]; simp)
  | .group a b n s q, h => ym (ex := [(yj a, a), (yj b, b), (yj n, n), (yj s, s)]) (by decide +kernel) (fun z hz => by
      simp only [List.mem_cons, List.not_mem_nil, or_false] at hz;rcases hz with rfl | rfl | rfl | rfl
      · exact jI (jk h.1)
      · exact jI (jk h.2.1)
      · exact jI (jk h.2.2.1)
      · exact jI (jk h.2.2.2.1)) (yq h.2.2.2.2) (by simp only [zz, app_list, z8k, l41, l32, List.map_cons, List.map_nil, z22, z6r]; simp)
  | .sort a q, h => ym (ex := [(yj a, a)]) (by decide +kernel) (z59 (jI (jk h.1))) (yq h.2) (by simp only [zz, app_list, za2, l41, l32, List.map_cons, List.map_nil, kE]; simp)

theorem zbx : ∀ l : List Nat, ∃ a k, l = a ++ List.replicate k 41 ∧ ∀ c, a.getLast? = some c → c ≠ 41 := by
  intro l
  induction h : l.length generalizing l with
  | zero =>
    have : l = [] := List.length_eq_zero_iff.mp h;subst this;exact ⟨[], 0, rfl, fun c hc => by cases hc⟩
  | succ n ih =>
    have hne : l ≠ [] := fun e => by rw [e] at h; cases h
    obtain ⟨gs, x, rfl⟩ := z1j hne;by_cases hx : x = 41
    · obtain ⟨a, k, e, ha⟩ := ih gs (by simpa using h);refine ⟨a, k + 1, ?_, ha⟩;rw [e, hx, List.append_assoc, ← List.replicate_succ']
    · exact ⟨gs ++ [x], 0, by simp, fun c hc => by rw [List.getLast?_concat] at hc; cases hc; exact hx⟩
theorem z5K (p : Str) : ∃ a k, p.cps.toList = a ++ List.replicate k 41 ∧ (∀ c, a.getLast? = some c → c ≠ 41) ∧ baseOf p = tx a := by
  obtain ⟨a, k, e, ha⟩ := zbx p.cps.toList;refine ⟨a, k, e, ha, ?_⟩;unfold baseOf;exact z2l (g := (")" : Str).cps.contains) (x := p) (a := a) (b := List.replicate k 41) e (fun c hc => by rw [(List.mem_replicate.mp hc).2]; decide +kernel) (fun c hc => by
    have := ha c hc;rw [z36]
    simpa using this)
theorem z4p (p : Str) : ∀ c, (baseOf p).cps.toList.getLast? = some c → c ≠ 41 := by
  obtain ⟨a, k, e, ha, hb⟩ := z5K p;rw [hb];exact fun c hc => ha c (by simpa [tx] using hc)
theorem z5b {b : Str} (h : ∀ c, b.cps.toList.getLast? = some c → c ≠ 41) (k : Nat) : baseOf (brk b k) = b ∧ jA (brk b k) = k := by
  have e : baseOf (brk b k) = b := by
    unfold baseOf;have := z2l (g := (")" : Str).cps.contains) (x := brk b k) (a := b.cps.toList) (b := List.replicate k 41) (by simp [brk]) (fun c hc => by rw [(List.mem_replicate.mp hc).2]; decide +kernel) (fun c hc => by
      have := h c hc;rw [z36]
      simpa using this)
    rw [z2W] at this;exact this
  refine ⟨e, ?_⟩;unfold jA;rw [e, len_list, len_list];simp [brk]
theorem z1M (p : Str) : p.cps.toList = (baseOf p).cps.toList ++ List.replicate (jA p) 41 := by
  obtain ⟨a, k, e, ha, hb⟩ := z5K p;have hk : jA p = k := by
    unfold jA;rw [hb, len_list, len_list, e];simp [tx]
  rw [hb, hk]
  simpa [tx] using e
def okc (c : Nat) : Bool := (decide (97 ≤ c) && decide (c ≤ 122)) || (decide (48 ≤ c) && decide (c ≤ 57)) || decide (c = 45)
def z0m (x : Str) : Prop := x.cps.toList ≠ [] ∧ ∀ c ∈ x.cps.toList, okc c = true
theorem z9W : ∀ c ∈ lowers.cps.toList, okc c = true := by decide +kernel
theorem z9u : ∀ c ∈ z1B.cps.toList, okc c = true := by decide +kernel
theorem z1J {x : Str} (h : zZ x = true) : z0m x := by
  unfold zZ at h;rw [Bool.and_eq_true] at h;refine ⟨fun e => ?_, fun c hc => ?_⟩
  · have h1 := h.1;rw [show x = "" from yS (by rw [e]; rfl)] at h1;simp at h1
  · have := List.all_eq_true.mp h.2 c hc;exact z9W c (by simpa using this)
theorem z4z {x : Str} (h : jK x = true) : z0m x := by
  unfold jK kO at h;split at h
  · cases h
  · rename_i hn;have h1 : ¬ jw x = "" := fun e => hn (by rw [decide_eq_true e]; rfl)
    have h2 : ∀ c ∈ (jw x).cps.toList, okc c = true := fun c hc => by
      by_cases ha : ((jw x).cps.toList.all fun c => z1B.cps.contains c) = true
      · have := List.all_eq_true.mp ha c hc;exact z9u c (by simpa using this)
      · exact absurd (by rw [Bool.eq_false_iff.mpr ha]; simp) hn
    unfold jw at h1 h2;by_cases hs : Txt.startswith x "-" = true
    · rw [if_pos hs] at h1 h2;have e0 := kC x 45;rw [← z1Y, hs] at e0;cases e : x.cps.toList with
      | nil => rw [e] at e0; simp at e0
      | cons d r =>
        rw [e] at e0;have hd : d = 45 := by simpa using e0.symm
        rw [z1y e] at h2;refine ⟨by rw [e]; simp, fun c hc => ?_⟩;rw [e] at hc;rcases List.mem_cons.mp hc with q | q
        · rw [q, hd]; decide
        · exact h2 c (by simpa [tx] using q)
    · rw [if_neg hs] at h1 h2;exact ⟨fun e => h1 (yS (by rw [e]; rfl)), h2⟩
theorem z2I {f x : Str} {t : Tr} (h : je f (.s x) = some t) : z0m x := by
  simp only [je] at h;split at h
  · exact z1J (by assumption)
  · split at h
    · exact z4z (by assumption)
    · cases h
def z4F : Tr → Prop
  | .s x => z0m x
  | _ => True
theorem z37 : ∀ {fs : List Str} {ts ks : List Tr}, jY fs ts = some ks → ∀ t ∈ ts, z4F t
  | [], [], ks, _ => fun t ht => by cases ht
  | [], _ :: _, ks, h => by cases h
  | _ :: _, [], ks, h => by cases h
  | f :: fs, a :: ts, ks, h => by
    unfold jY at h;cases h1 : je f a with
    | none => rw [h1] at h; cases h
    | some k =>
      cases h2 : jY fs ts with
      | none => rw [h1, h2] at h; cases h
      | some r =>
        intro t ht;rcases List.mem_cons.mp ht with e | ht
        · subst e;cases t with
          | s x => exact z2I h1
          | i n => exact True.intro
          | t l => exact True.intro
        · exact z37 h2 t ht
theorem z41 {D : List (Str × List Str)} (hD : ∀ p ∈ D, z0m p.1) {k : Str} {xs : List Str} (e : tabAt D k = some xs) : z0m k := by
  unfold tabAt at e;exact hD _ (PySem.mem_of_lookup e)
theorem z2t (x : Str) (h : (!x.cps.toList.isEmpty && x.cps.toList.all okc) = true) : z0m x := by
  rw [Bool.and_eq_true] at h;exact ⟨fun e => by rw [e] at h; simp at h, fun c hc => List.all_eq_true.mp h.2 c hc⟩
theorem z68 {w : Str} {ts : List Tr} {t : Tr} (h : kg w ts = some t) : z0m w ∧ ∀ t ∈ ts, z4F t := by
  obtain ⟨fs, ks, hf, _, hk, _⟩ := z5O h;refine ⟨?_, z37 hk⟩;unfold kw at hf;split at hf
  · rename_i e;rw [e];exact z2t _ (by decide +kernel)
  · split at hf
    · rename_i e;exact z41 (D := questions) (fun p hp => z2t _ (by revert p; decide +kernel)) e
    · exact z41 (D := conditions) (fun p hp => z2t _ (by revert p; decide +kernel)) hf
def Bad (f : Str × List Tr) : Prop := ¬ z0m f.1 ∨ ∃ t ∈ f.2, ¬ z4F t
theorem z31 : ∀ {k : Nat} {st : Stack} {t t' : Tr}, yo k st t = some t' → (∀ f ∈ st.take k, ¬ Bad f) ∧ (0 < k → z4F t)
  | 0, st, t, t', h => ⟨fun f hf => by simp at hf, fun z => absurd z (Nat.lt_irrefl _)⟩
  | k + 1, [], t, t', h => by cases h
  | k + 1, (w, ts) :: st, t, t', h => by
    unfold yo at h;cases e : kg w (ts ++ [t]) with
    | none => rw [e] at h; cases h
    | some u =>
      rw [e] at h;obtain ⟨s1, s2⟩ := z68 e;have ih := z31 h;refine ⟨fun f hf => ?_, fun _ => s2 t (List.mem_append_right _ (List.mem_singleton.mpr rfl))⟩;rw [List.take_succ_cons] at hf;rcases List.mem_cons.mp hf with e2 | hf
      · subst e2;rintro (z | ⟨z, hz, hn⟩)
        · exact z s1
        · exact hn (s2 z (List.mem_append_left _ hz))
      · exact ih.1 f hf
def z2S (p : Str) : Prop := if Txt.startswith p "(" = true then ¬ z0m (Txt.slice p (some 1) none) else ¬ z0m (baseOf p)
theorem z5E {st st' : Stack} {p : Str} (h : jS st p = some st') (hb : (∃ f ∈ st, Bad f) ∨ z2S p) : ∃ f ∈ st', Bad f := by
  unfold jS at h;unfold z2S at hb;by_cases hs : Txt.startswith p "(" = true
  · rw [if_pos hs] at h hb;cases h;rcases hb with ⟨f, hf, hb⟩ | hb
    · exact ⟨f, List.mem_cons_of_mem _ hf, hb⟩
    · exact ⟨_, List.mem_cons_self, .inl hb⟩
  · rw [if_neg hs] at h hb;cases hl : yo (jA p) st (.s (baseOf p)) with
    | none => rw [hl] at h; cases h
    | some t =>
      rw [hl] at h;obtain ⟨l1, l2⟩ := z31 hl;cases hd : st.drop (jA p) with
      | nil => simp only [hd] at h; cases h
      | cons fr r =>
        obtain ⟨w, ts⟩ := fr;simp only [hd] at h;cases h;rcases hb with ⟨f, hf, hb⟩ | hb
        · rw [← List.take_append_drop (jA p) st] at hf;rcases List.mem_append.mp hf with hf | hf
          · exact absurd hb (l1 f hf)
          · rw [hd] at hf;rcases List.mem_cons.mp hf with e | hf
            · subst e;refine ⟨_, List.mem_cons_self, ?_⟩;rcases hb with hb | ⟨z, hz, hn⟩
              · exact .inl hb
              · exact .inr ⟨z, List.mem_append_left _ hz, hn⟩
            · exact ⟨f, List.mem_cons_of_mem _ hf, hb⟩
        · by_cases hk : 0 < jA p
          · exact absurd (l2 hk) hb
          · have h0 : jA p = 0 := by omega
            rw [h0] at hl;have e : t = .s (baseOf p) := (Option.some.inj hl).symm;subst e;exact ⟨_, List.mem_cons_self, .inr ⟨_, List.mem_append_right _ (List.mem_singleton.mpr rfl), hb⟩⟩
theorem z2V : ∀ {ps : List Str} {st st' : Stack}, yF st ps = some st' → ((∃ f ∈ st, Bad f) ∨ ∃ p ∈ ps, z2S p) → ∃ f ∈ st', Bad f
  | [], st, st', h, hb => by
    cases h;rcases hb with hb | ⟨p, hp, _⟩
    · exact hb
    · cases hp
  | a :: ps, st, st', h, hb => by
    unfold yF at h;cases e : jS st a with
    | none => rw [e] at h; cases h
    | some s2 =>
      rw [e] at h;rcases hb with hb | ⟨p, hp, hb⟩
      · exact z2V h (.inl (z5E e (.inl hb)))
      · rcases List.mem_cons.mp hp with e2 | hp
        · subst e2;exact z2V h (.inl (z5E e (.inr hb)))
        · exact z2V h (.inr ⟨p, hp, hb⟩)
theorem z67 {p : Str} (h : p.cps.toList.head? = some 40) : ¬ z0m (baseOf p) := fun hs => by
  have e := z1M p;cases hb : (baseOf p).cps.toList with
  | nil => exact hs.1 hb
  | cons c r =>
    rw [hb] at e;rw [e] at h;have hc : c = 40 := by simpa using h
    have := hs.2 c (by rw [hb]; exact List.mem_cons_self);rw [hc] at this;exact absurd this (by decide)
theorem z7z {p : Str} (hs : Txt.startswith p "(" = true) : ¬ z0m (baseOf p) := z67 (by
  have := kC p 40;rw [← z0Q, hs] at this
  simpa using this.symm)
theorem z80 {ps : List Str} (h : ∃ p ∈ ps, z2S p) (hne : ps ≠ []) : z3z ps = none := by
  obtain ⟨init, last, rfl⟩ := z1j hne;unfold z3z;rw [List.dropLast_concat, List.getLastD_concat];cases hr : yF [] init with
  | none => rfl
  | some st =>
    dsimp only;cases hl : yo (jA last) st (.s (baseOf last)) with
    | none => rfl
    | some t =>
      dsimp only;cases hd : st.drop (jA last) with
      | cons a r => rfl
      | nil =>
        dsimp only;obtain ⟨l1, l2⟩ := z31 hl;have hst : st.take (jA last) = st := by
          have := List.take_append_drop (jA last) st;rw [hd, List.append_nil] at this;exact this
        have hlast : ¬ z2S last ∨ je "question" t = none := by
          by_cases hb : z2S last
          · right;have hs : ¬ z0m (baseOf last) := by
              unfold z2S at hb;by_cases hs : Txt.startswith last "(" = true
              · exact z7z hs
              · rw [if_neg hs] at hb;exact hb
            by_cases hk : 0 < jA last
            · exact absurd (l2 hk) hs
            · have h0 : jA last = 0 := by omega
              rw [h0] at hl;have e : t = .s (baseOf last) := (Option.some.inj hl).symm;subst e;cases hq : je "question" (.s (baseOf last)) with
              | none => rfl
              | some u => exact absurd (z2I hq) hs
          · exact .inl hb
        rcases hlast with hlast | hlast
        · obtain ⟨p, hp, hb⟩ := h;rcases List.mem_append.mp hp with hp | hp
          · obtain ⟨f, hf, hbf⟩ := z2V hr (.inr ⟨p, hp, hb⟩);exact absurd hbf (l1 f (by rw [hst]; exact hf))
          · rw [List.mem_singleton.mp hp] at hb;exact absurd hb hlast
        · exact hlast
theorem z2a {line : Str} (h : ∃ p ∈ Txt.split line " ", z2S p) : y0 line = none := z80 h (z1P line)

theorem z00 (x : Str) : sp (Txt.split x " ") = 32 :: x.cps.toList := by
  rw [z2Y (z1P x)];rw [show Str.join " " (Txt.split x " ") = x from by rw [blank_eq]; exact StrLaws.join_split x ⟨#[32]⟩]
theorem yT (x : Str) : ∀ p ∈ Txt.split x " ", 32 ∉ p.cps.toList := by
  rw [blank_eq];exact StrLaws.split_free x 32
theorem z0c {x : Str} {ps : List Str} (hne : ps ≠ []) (hp : ∀ p ∈ ps, 32 ∉ p.cps.toList) (h : sp ps = 32 :: x.cps.toList) : Txt.split x " " = ps := by
  have e : Str.join " " ps = x := yS (by
    have := z2Y hne;rw [h] at this;exact (List.cons.inj this).2.symm)
  rw [← e, blank_eq];exact z8l hne hp
theorem z6O {c : Nat} {ps : List Str} : c ∈ sp ps ↔ ∃ p ∈ ps, c = 32 ∨ c ∈ p.cps.toList := by
  unfold sp;rw [List.mem_flatMap];simp only [List.mem_cons]
theorem z7O {x p : Str} (hp : p ∈ Txt.split x " ") {c : Nat} (hc : c ∈ p.cps.toList) : c ∈ x.cps.toList := by
  have h : c ∈ sp (Txt.split x " ") := z6O.mpr ⟨p, hp, .inr hc⟩;rw [z00] at h;rcases List.mem_cons.mp h with e | h
  · exact absurd (e ▸ hc) (yT x p hp)
  · exact h
theorem z8Z {x : Str} {c : Nat} (hc : c ∈ x.cps.toList) (h : c ≠ 32) : ∃ p ∈ Txt.split x " ", c ∈ p.cps.toList := by
  have h1 : c ∈ sp (Txt.split x " ") := by rw [z00]; exact List.mem_cons_of_mem _ hc
  obtain ⟨p, hp, e | e⟩ := z6O.mp h1
  · exact absurd e h
  · exact ⟨p, hp, e⟩
theorem z5u {x : Str} {c : Nat} (hc : c ∈ x.cps.toList) (h : okc c = false) (h1 : c ≠ 32) (h2 : c ≠ 40) (h3 : c ≠ 41) : y0 x = none := by
  obtain ⟨p, hp, hcp⟩ := z8Z hc h1;refine z2a ⟨p, hp, ?_⟩;unfold z2S;by_cases hs : Txt.startswith p "(" = true
  · rw [if_pos hs];have e0 := kC p 40;rw [← z0Q, hs] at e0;cases e : p.cps.toList with
    | nil => rw [e] at e0; simp at e0
    | cons d r =>
      rw [e] at e0;have hd : d = 40 := by simpa using e0.symm
      rw [z1y e];intro z;have hm : c ∈ r := by
        rw [e] at hcp;rcases List.mem_cons.mp hcp with q | q
        · exact absurd (q.trans hd) h2
        · exact q
      have := z.2 c (by simpa [tx] using hm);rw [h] at this;cases this
  · rw [if_neg hs];intro z;rw [z1M p] at hcp;rcases List.mem_append.mp hcp with q | q
    · have := z.2 c q;rw [h] at this;cases this
    · exact h3 (List.mem_replicate.mp q).2
theorem z42 : z2S "" := by
  unfold z2S;rw [if_neg (by decide +kernel)];exact fun z => z.1 (by decide +kernel)
theorem z1c (x : Str) : y0 (x ++ " ") = none := by
  have e : Txt.split (x ++ " ") " " = Txt.split x " " ++ [("" : Str)] := by
    refine z0c (List.append_ne_nil_of_right_ne_nil _ (List.cons_ne_nil _ _)) (fun p hp => ?_) ?_
    · rcases List.mem_append.mp hp with hp | hp
      · exact yT x p hp
      · rw [List.mem_singleton.mp hp]; decide +kernel
    · rw [z1b, z00, kE, app_list, l32]
      rfl
  exact z2a ⟨"", by rw [e]; exact List.mem_append_right _ (List.mem_singleton.mpr rfl), z42⟩
theorem z3Z (x : Str) : y0 (" " ++ x) = none := by
  have e : Txt.split (" " ++ x) " " = ("" : Str) :: Txt.split x " " := by
    refine z0c (List.cons_ne_nil _ _) (fun p hp => ?_) ?_
    · rcases List.mem_cons.mp hp with hp | hp
      · rw [hp]; decide +kernel
      · exact yT x p hp
    · rw [z22, z00, app_list, l32]
      rfl
  exact z2a ⟨"", by rw [e]; exact List.mem_cons_self, z42⟩
theorem z4y {x : Str} (h : x.cps.toList.head? = some 40) : y0 ("(" ++ x) = none := by
  have hx : ("(" ++ x : Str).cps.toList = 40 :: x.cps.toList := by rw [app_list, l40]; rfl
  have e := z00 ("(" ++ x);have hne := z1P ("(" ++ x);cases hps : Txt.split ("(" ++ x) " " with
  | nil => exact absurd hps hne
  | cons p r =>
    rw [hps, z22, hx] at e;have e2 := (List.cons.inj e).2;have hr : ∀ c, (sp r).head? = some c → c = 32 := fun c hc => by
      cases r with
      | nil => cases hc
      | cons a r => rw [z22] at hc; simpa using hc.symm
    cases hx2 : x.cps.toList with
    | nil => rw [hx2] at h; cases h
    | cons d xs =>
      rw [hx2] at h e2;have hd : d = 40 := by simpa using h
      subst hd;cases hp : p.cps.toList with
      | nil =>
        rw [hp, List.nil_append] at e2;exact absurd (hr 40 (by rw [e2]; rfl)) (by decide)
      | cons a p2 =>
        rw [hp, List.cons_append] at e2;have ha := (List.cons.inj e2).1;have e3 := (List.cons.inj e2).2;cases p2 with
        | nil =>
          rw [List.nil_append] at e3;exact absurd (hr 40 (by rw [e3]; rfl)) (by decide)
        | cons b p3 =>
          have hb := (List.cons.inj e3).1;refine z2a ⟨p, by rw [hps]; exact List.mem_cons_self, ?_⟩;have hs : Txt.startswith p "(" = true := by
            have := kC p 40;rw [← z0Q, hp, ha] at this;rw [this]
            rfl
          unfold z2S;rw [if_pos hs, z1y hp];intro z;have := z.2 b (by simp [tx]);rw [hb] at this;exact absurd this (by decide)
theorem z1G {e : Elem} {x : Str} (g : Good e) (l : z0t e x) : ∃ pre last st, Txt.split x " " = pre ++ [last] ∧ yF [] pre = some st ∧ Txt.startswith last "(" = false ∧ yo (jA last) st (.s (baseOf last)) = some e.raw ∧ st.length = jA last := by
  obtain ⟨pre, last, st, e1, e2, e3, e4, e5⟩ := g 0 [] (Nat.le_refl _);obtain ⟨a1, a2, a3⟩ := l 0;have h4 : yo (jA last) st (.s (baseOf last)) = some e.raw := e4;have h5 : st.drop (jA last) = [] := e5;refine ⟨pre, last, st, ?_, e2, e3, h4, ?_⟩
  · rw [← e1];exact z0c a1 a3 (by rw [a2, List.replicate_zero, List.append_nil])
  · have h6 := z1W h4;have h7 := List.drop_eq_nil_iff.mp h5;omega
theorem z3Q {e : Elem} {x : Str} (g : Good e) (l : z0t e x) : y0 (x ++ " " ++ x) = none := by
  obtain ⟨pre, last, st, e1, e2, e3, e4, e5⟩ := z1G g l;have es : Txt.split (x ++ " " ++ x) " " = (pre ++ [last] ++ pre) ++ [last] := by
    refine z0c (List.append_ne_nil_of_right_ne_nil _ (List.cons_ne_nil _ _)) (fun p hp => yT x p (by
      rw [e1];rcases List.mem_append.mp hp with hp | hp
      · rcases List.mem_append.mp hp with hp | hp
        · exact hp
        · exact List.mem_append_left _ hp
      · exact List.mem_append_right _ hp)) ?_
    have := z00 x;rw [e1] at this;rw [List.append_assoc (pre ++ [last]), z1b, this, app_list, app_list, l32, List.append_assoc]
    rfl
  unfold y0 z3z;rw [es, List.dropLast_concat, List.getLastD_concat];have hn : yF [] (pre ++ [last] ++ pre) = none := by
    refine z38 (i := pre.length) (p := last) (st' := st) ?_ ?_ ?_
    · rw [List.append_assoc, List.take_left];exact e2
    · rw [List.append_assoc, List.getElem?_append_right (Nat.le_refl _), Nat.sub_self]
      rfl
    · unfold jS;rw [if_neg (by rw [e3]; simp), e4];have : st.drop (jA last) = [] := List.drop_eq_nil_iff.mpr (by omega);simp only [this]
  rw [hn]
theorem z7F (p : Str) : baseOf (p ++ ")") = baseOf p ∧ jA (p ++ ")") = jA p + 1 := by
  have e : (p ++ ")" : Str) = brk (baseOf p) (jA p + 1) := yS (by
    have h1 := z1M p;rw [app_list, l41, h1, List.append_assoc, ← List.replicate_succ'];simp [brk])
  rw [e];exact z5b (z4p p) _
theorem z32 {e : Elem} {x : Str} (g : Good e) (l : z0t e x) : y0 (x ++ ")") = none := by
  obtain ⟨pre, last, st, e1, e2, e3, e4, e5⟩ := z1G g l;have es : Txt.split (x ++ ")") " " = pre ++ [last ++ ")"] := by
    refine z0c (List.append_ne_nil_of_right_ne_nil _ (List.cons_ne_nil _ _)) (fun p hp => ?_) ?_
    · rcases List.mem_append.mp hp with hp | hp
      · exact yT x p (by rw [e1]; exact List.mem_append_left _ hp)
      · rw [List.mem_singleton.mp hp, app_list, l41];intro z;rcases List.mem_append.mp z with z | z
        · exact yT x last (by rw [e1]; exact List.mem_append_right _ (List.mem_singleton.mpr rfl)) z
        · simp at z
    · have := z00 x;rw [e1, z1b, kE] at this;rw [z1b, kE, app_list, app_list, ← List.cons_append, ← List.append_assoc, this]
      rfl
  unfold y0 z3z;rw [es, List.dropLast_concat, List.getLastD_concat, e2];dsimp only;obtain ⟨b1, b2⟩ := z7F last;rw [b1, b2];cases hl : yo (jA last + 1) st (.s (baseOf last)) with
  | none => rfl
  | some t => exact absurd (z1W hl) (by omega)
theorem z9T : ∀ {ps : List Str} {st : Stack}, yF st ps = some [] → ps = [] := fun {ps st} h => by
  cases hne : ps with
  | nil => rfl
  | cons a r =>
    obtain ⟨gs, p, e⟩ := z1j (l := a :: r) (by simp);rw [hne, e] at h;obtain ⟨s2, h1, h2⟩ := z6W h;have h3 : jS s2 p = some [] := by
      have := h2;unfold yF at this;cases q : jS s2 p with
      | none => rw [q] at this; cases this
      | some s3 => rw [q] at this; cases this; rfl
    unfold jS at h3;split at h3
    · cases h3
    · split at h3
      · cases h3
      · split at h3
        · cases h3
        · cases h3
theorem z3Y {e : Elem} {x y : Str} (g : Good e) (l : z0t e x) (h0 : 2 ≤ (e.toks 0).length) (hy : x.cps.toList = y.cps.toList ++ [41]) : y0 y = none := by
  obtain ⟨pre, last, st, e1, e2, e3, e4, e5⟩ := z1G g l;have et : e.toks 0 = pre ++ [last] := by
    obtain ⟨a1, a2, a3⟩ := l 0;rw [← e1];exact (z0c a1 a3 (by rw [a2, List.replicate_zero, List.append_nil])).symm
  have hk : 1 ≤ jA last := by
    by_cases hk : 1 ≤ jA last
    · exact hk
    · have h1 : st = [] := List.length_eq_zero_iff.mp (by omega);rw [h1] at e2;rw [et, z9T e2] at h0;simp at h0
  have hd := z1M last;obtain ⟨k, hk'⟩ : ∃ k, jA last = k + 1 := ⟨jA last - 1, by omega⟩
  have hsx := z00 x;rw [e1, z1b, kE, hd, hk', List.replicate_succ', ← List.append_assoc, ← List.cons_append, ← List.append_assoc, hy] at hsx;have hsy := (List.append_inj' (hsx.trans (List.cons_append ..).symm) rfl).1;have es : Txt.split y " " = pre ++ [brk (baseOf last) k] := by
    refine z0c (List.append_ne_nil_of_right_ne_nil _ (List.cons_ne_nil _ _)) (fun p hp => ?_) ?_
    · rcases List.mem_append.mp hp with hp | hp
      · exact yT x p (by rw [e1]; exact List.mem_append_left _ hp)
      · rw [List.mem_singleton.mp hp];intro z;refine yT x last (by rw [e1]; exact List.mem_append_right _ (List.mem_singleton.mpr rfl)) ?_;rw [hd, hk'];have z' : 32 ∈ (baseOf last).cps.toList ++ List.replicate k 41 := by simpa [brk] using z
        rcases List.mem_append.mp z' with z' | z'
        · exact List.mem_append_left _ z'
        · exact absurd (List.mem_replicate.mp z').2 (by decide)
    · rw [z1b, kE];have eb : (brk (baseOf last) k).cps.toList = (baseOf last).cps.toList ++ List.replicate k 41 := by simp [brk]
      rw [eb];exact hsy
  obtain ⟨b1, b2⟩ := z5b (z4p last) k;unfold y0 z3z;rw [es, List.dropLast_concat, List.getLastD_concat, e2, b1, b2];dsimp only;cases hl : yo k st (.s (baseOf last)) with
  | none => rfl
  | some t =>
    dsimp only;cases hdr : st.drop k with
    | nil => exact absurd (List.drop_eq_nil_iff.mp hdr) (by omega)
    | cons a r => rfl

def Low (x : Str) : Prop := ∀ c ∈ x.cps.toList, c < 128
theorem zH {a b : Str} (ha : Low a) (hb : Low b) : Low (a ++ b) := fun c hc => by
  rw [app_list] at hc;exact (List.mem_append.mp hc).elim (ha c) (hb c)
theorem ko {x : Str} (h : zZ x = true) : Low x := fun c hc => by
  have := (z1J h).2 c hc;unfold okc at this;simp only [Bool.or_eq_true, Bool.and_eq_true, decide_eq_true_eq] at this;omega
theorem z8P : ∀ i ∈ nums, ∀ c ∈ (toString i : Str).cps.toList, c < 128 := by decide +kernel
theorem z85 : ∀ i ∈ kG, ∀ c ∈ (toString i : Str).cps.toList, c < 128 := by decide +kernel
theorem z8K {ns : List Str} (h : ∀ n ∈ ns, Low n) : Low (Str.join " " ns) := by
  cases ns with
  | nil => exact fun c hc => by cases hc
  | cons a r =>
    intro c hc;have h1 := z2Y (ps := a :: r) (by simp);have h2 : c ∈ sp (a :: r) := by rw [h1]; exact List.mem_cons_of_mem _ hc
    obtain ⟨p, hp, e | e⟩ := z6O.mp h2
    · rw [e]; decide
    · exact h p hp c e
theorem z1Q {a : Side} (h : z2J a) : Low (Side.txt a) := by
  cases a with
  | nm s => exact ko h
  | nu i => exact z8P i h
theorem lc {x : Str} (h : ∀ c ∈ x.cps.toList, c < 128) : Low x := h
theorem z0y : ∀ {c : Cond}, z1F c → Low (jH c)
  | .less a b, h => zH (zH (lc (by decide +kernel)) (zH (zH (z1Q h.1) (lc (by decide +kernel))) (z1Q h.2))) (lc (by decide +kernel))
  | .same a b, h => zH (zH (lc (by decide +kernel)) (zH (zH (z1Q h.1) (lc (by decide +kernel))) (z1Q h.2))) (lc (by decide +kernel))
  | .no c, h => zH (zH (lc (by decide +kernel)) (z0y (c := c) h)) (lc (by decide +kernel))
  | .an c d, h => zH (zH (lc (by decide +kernel)) (zH (zH (z0y h.1) (lc (by decide +kernel))) (z0y h.2))) (lc (by decide +kernel))
  | .or c d, h => zH (zH (lc (by decide +kernel)) (zH (zH (z0y h.1) (lc (by decide +kernel))) (z0y h.2))) (lc (by decide +kernel))
theorem yG : ∀ {q : Qn}, km q → Low (zz q)
  | .table n, h => ko h
  | .pick c q, h => zH (zH (zH (zH (lc (by decide +kernel)) (z0y h.1)) (lc (by decide +kernel))) (yG h.2)) (lc (by decide +kernel))
  | .cols ns q, h => zH (zH (zH (zH (lc (by decide +kernel)) (z8K fun n hn => ko (h.2.1 n hn))) (lc (by decide +kernel))) (yG h.2.2)) (lc (by decide +kernel))
  | .pair q r, h => zH (zH (zH (zH (lc (by decide +kernel)) (yG h.1)) (lc (by decide +kernel))) (yG h.2)) (lc (by decide +kernel))
  | .join a b q r, h => zH (zH (zH (zH (zH (zH (zH (zH (lc (by decide +kernel)) (ko h.1)) (lc (by decide +kernel))) (ko h.2.1)) (lc (by decide +kernel))) (yG h.2.2.1)) (lc (by decide +kernel))) (yG h.2.2.2)) (lc (by decide +kernel))
  | .both q r, h => zH (zH (zH (zH (lc (by decide +kernel)) (yG h.1)) (lc (by decide +kernel))) (yG h.2)) (lc (by decide +kernel))
  | .first n q, h => zH (zH (zH (zH (lc (by decide +kernel)) (lc (z85 n h.1))) (lc (by decide +kernel))) (yG h.2)) (lc (by decide +kernel))
  | .group a b n s q, h => zH (zH (zH (zH (lc (by decide +kernel)) (zH (zH (zH (zH (zH (zH (ko h.1) (lc (by decide +kernel))) (ko h.2.1)) (lc (by decide +kernel))) (ko h.2.2.1)) (lc (by decide +kernel))) (ko h.2.2.2.1))) (lc (by decide +kernel))) (yG h.2.2.2.2)) (lc (by decide +kernel))
  | .sort a q, h => zH (zH (zH (zH (lc (by decide +kernel)) (ko h.1)) (lc (by decide +kernel))) (yG h.2)) (lc (by decide +kernel))
theorem jE {c : Nat} {a b : Str} (h : c ∈ a.cps.toList) : c ∈ (a ++ b).cps.toList := by rw [app_list]; exact List.mem_append_left _ h
theorem jf {c : Nat} {a b : Str} (h : a.cps.toList.head? = some c) : (a ++ b).cps.toList.head? = some c := by
  rw [app_list];cases e : a.cps.toList with
  | nil => rw [e] at h; cases h
  | cons d r => rw [e] at h; exact h
theorem z6s : ∀ {q : Qn}, km q → ∃ c ∈ (zz q).cps.toList, 97 ≤ c ∧ c ≤ 122
  | .table n, h => by
    have h1 := z1J h;cases e : n.cps.toList with
    | nil => exact absurd e h1.1
    | cons c r =>
      have h2 : c ∈ lowers.cps.toList := by
        have h : zZ n = true := h;unfold zZ at h;rw [Bool.and_eq_true] at h;have := List.all_eq_true.mp h.2 c (by rw [e]; exact List.mem_cons_self)
        simpa using this
      have h3 : ∀ c ∈ lowers.cps.toList, 97 ≤ c ∧ c ≤ 122 := by decide +kernel
      exact ⟨c, by show c ∈ n.cps.toList; rw [e]; exact List.mem_cons_self, h3 c h2⟩
  | .pick c q, h => ⟨112, jE (jE (jE (jE (by decide +kernel)))), by decide, by decide⟩
  | .cols ns q, h => ⟨99, jE (jE (jE (jE (by decide +kernel)))), by decide, by decide⟩
  | .pair q r, h => ⟨112, jE (jE (jE (jE (by decide +kernel)))), by decide, by decide⟩
  | .join a b q r, h => ⟨106, jE (jE (jE (jE (jE (jE (jE (jE (by decide +kernel)))))))), by decide, by decide⟩
  | .both q r, h => ⟨98, jE (jE (jE (jE (by decide +kernel)))), by decide, by decide⟩
  | .first n q, h => ⟨102, jE (jE (jE (jE (by decide +kernel)))), by decide, by decide⟩
  | .group a b n s q, h => ⟨103, jE (jE (jE (jE (by decide +kernel)))), by decide, by decide⟩
  | .sort a q, h => ⟨115, jE (jE (jE (jE (by decide +kernel)))), by decide, by decide⟩
theorem z5Z : ∀ {q : Qn}, km q → (∀ n, q ≠ .table n) → (zz q).cps.toList.head? = some 40 ∧ (∃ y, (zz q).cps.toList = y ++ [41]) ∧ 2 ≤ ((elQ q).toks 0).length := by
  have two : ∀ {W : Str} {es : List Elem} {r : Qn} {t : Tr}, km r → 2 ≤ ((brkE W es (elQ r) t).toks 0).length := fun {W es r t} h => by
    have := (yq h (0 + 1)).1
    show 2 ≤ (("(" ++ W) :: (es.flatMap (fun x : Elem => x.toks 0) ++ (elQ r).toks (0 + 1))).length
    rw [List.length_cons, List.length_append];have : 1 ≤ ((elQ r).toks (0 + 1)).length := Nat.pos_of_ne_zero fun e => this (List.length_eq_zero_iff.mp e)
    omega
  have la : ∀ a : Str, ∃ y, (a ++ ")" : Str).cps.toList = y ++ [41] := fun a => ⟨a.cps.toList, by rw [app_list, l41]⟩
  intro q h hn;cases q with
  | table n => exact absurd rfl (hn n)
  | pick c q => exact ⟨jf (jf (jf (jf (by decide +kernel)))), la _, two h.2⟩
  | cols ns q => exact ⟨jf (jf (jf (jf (by decide +kernel)))), la _, two h.2.2⟩
  | pair q r => exact ⟨jf (jf (jf (jf (by decide +kernel)))), la _, two h.2⟩
  | join a b q r => exact ⟨jf (jf (jf (jf (jf (jf (jf (jf (by decide +kernel)))))))), la _, two h.2.2.2⟩
  | both q r => exact ⟨jf (jf (jf (jf (by decide +kernel)))), la _, two h.2⟩
  | first n q => exact ⟨jf (jf (jf (jf (by decide +kernel)))), la _, two h.2⟩
  | group a b n s q => exact ⟨jf (jf (jf (jf (by decide +kernel)))), la _, two h.2.2.2.2⟩
  | sort a q => exact ⟨jf (jf (jf (jf (by decide +kernel)))), la _, two h.2⟩
theorem zc6 {x : Str} (h : ∀ c ∈ x.cps.toList, c < 256) : ∀ p ∈ Txt.split x " ", Asc (Txt.slice p (some 1) none) := fun p hp c hc => by
  cases e : p.cps.toList with
  | nil =>
    have := z4a p;rw [len_list, len_list, e] at this;have h0 : (Txt.slice p (some 1) none).cps.toList = [] := List.length_eq_zero_iff.mp (by simpa using this);rw [h0] at hc;cases hc
  | cons d r =>
    rw [z1y e] at hc;exact h c (z7O hp (by rw [e]; exact List.mem_cons_of_mem _ (by simpa [tx] using hc)))
theorem z4g {x : Str} (h : Low x) : (Txt.upper x).cps.toList = x.cps.toList.map PyProof.Rows.up1 := by
  rw [PyProof.Rows.upper_ascii h];simp
theorem zbi {c : Nat} (h : c < 128) : PyProof.Rows.up1 c < 128 := by
  unfold PyProof.Rows.up1;split <;> omega
theorem z7G {x : Str} (h : Low x) : Low (Txt.upper x) := fun c hc => by
  rw [z4g h] at hc;obtain ⟨d, hd, rfl⟩ := List.mem_map.mp hc;exact zbi (h d hd)
theorem z3R {x : Str} (hl : Low x) (h : ∃ c ∈ x.cps.toList, 97 ≤ c ∧ c ≤ 122) : y0 (Txt.upper x) = none := by
  obtain ⟨c, hc, h1, h2⟩ := h;have e : PyProof.Rows.up1 c = c - 32 := by unfold PyProof.Rows.up1; rw [if_pos ⟨h1, h2⟩]
  refine z5u (c := c - 32) (by rw [z4g hl]; exact List.mem_map.mpr ⟨c, hc, e⟩) ?_ (by omega) (by omega) (by omega);unfold okc;rw [show decide (97 ≤ c - 32) = false from decide_eq_false (by omega), show decide (c - 32 ≤ 57) = false from decide_eq_false (by omega), show decide (c - 32 = 45) = false from decide_eq_false (by omega)];simp
theorem z6F {x : Str} (h : Low x) : Low (Txt.replace x " " "  ") := fun c hc => by
  rw [blank_eq, show ("  " : Str) = ⟨#[32, 32]⟩ from by decide +kernel, StrLaws.replace_double] at hc;have hd : ∀ l : List Nat, c ∈ StrLaws.dbl 32 l → c ∈ l := fun l => by
    induction l with
    | nil => exact fun h => h
    | cons k r ih =>
      intro h;unfold StrLaws.dbl at h;split at h
      · rcases List.mem_cons.mp h with e | h
        · rw [e]; exact List.mem_cons_self
        · rcases List.mem_cons.mp h with e | h
          · rw [e]; exact List.mem_cons_self
          · exact List.mem_cons_of_mem _ (ih h)
      · rcases List.mem_cons.mp h with e | h
        · rw [e]; exact List.mem_cons_self
        · exact List.mem_cons_of_mem _ (ih h)
  exact h c (hd _ hc)

def zaX (K : PySem.W.Frag) : Sp := fun vs H Q _ => ∃ (a : Addr) (ns : List Int) (k : Nat), vs = [.ref a, .int (k : Int)] ∧ SqL K H a (ns.map V.int) ∧ ns.length ≤ 63 ∧ k ≤ 10 ∧ ∀ i : Int, Q (.int i) H
theorem z6n : FnScope ["_law_script", "_law_k"] ["_law_script", "_law_k"] (zv z06) := ⟨rfl, rfl, rfl, by decide +kernel, rfl, by decide +kernel, by decide +kernel⟩
theorem z6f (F : Fun K "_law_at" "_law_at" z06 f fd) (T : Txt K mg) : FnOk P w K mg base CX0 1 f fd ["_law_script", "_law_k"] (zaX K) := by
  refine F.ok z6n (fun vs H Q E h => ?_) (fun cdv A outer s H vs Q E hr h => ?_)
  · obtain ⟨a, ns, k, rfl, _⟩ := h
    rfl
  obtain ⟨a, ns, k, rfl, ha, hn, hk, q⟩ := h;refine ⟨_, (zj (jc (zG z2F (pv 1) (zI zK rfl T.len PySem.boot_len (zl (pv 0) zi)) (zN _))
      (zq (zR (zw zT (pv 0) (pv 1) (fun _ _ => rfl))))
      zQ)
    (zq (zR zd))), ?_⟩
  refine ⟨_, rfl, _, rfl, a, _, rfl, .inl ha, _, _, rfl, rfl, _, rfl, ?_⟩;by_cases hlt : k < ns.length
  · refine ifT (decide_eq_true (by rw [List.length_map]; omega)) ?_;exact ⟨_, rfl, _, rfl, a, _, _, _, rfl, rfl, ha, jr (by rw [List.getElem?_map, List.getElem?_eq_getElem hlt]; rfl), q _⟩
  · refine ifF (decide_eq_false (by rw [List.length_map]; omega)) ?_;exact q _
def z5U : List Str := (["()", "(pick t)", "(cols t)", "(first -1 t)", "(first 01 t)", "(sort a t u)"] : List Str) ++ (["(pair t)", "(group a b c t)", "(pick (less a) t)", "(pick (not a) t)"] : List Str) ++ (["(join a t u)", "(less a 1)", "(first a t)", "(sort 1 t)", "(both t u v)"] : List Str) ++ (["(pick (less a -0) t)", "(sort a)", "(cols 1 t)", "(sort a t)(sort a t)"] : List Str) ++ (["(pick less a 1 t)", "(pick (same a 1 2) t)", "(select a t)", "5", "", " "] : List Str) ++ (["(table t)", "(first +1 t)", "(pick (less a 00) t)", "(sort a t))", "t u"] : List Str) ++ (["(first -2 u)", "(pair (first -1 t) u)", "(first -12 (sort a t))"] : List Str) ++ (["( sort a t)", "(sort a t )", "(sort a(first 1 t))"] : List Str)
def z8f (l : Str) : Bool := decide (l.length ≤ 100) && (l.cps.toList.all fun c => decide (c < 128)) && (y0 l).isNone
theorem z9A : ∀ l ∈ z5U, z8f l = true := by decide +kernel
theorem z5j {l : Str} (h : l ∈ z5U) : l.length ≤ 100 ∧ (∀ c ∈ l.cps.toList, c < 128) ∧ y0 l = none := by
  have := z9A l h;unfold z8f at this;simp only [Bool.and_eq_true, decide_eq_true_eq, List.all_eq_true, Option.isNone_iff_eq_none] at this;exact ⟨this.1.1, this.1.2, this.2⟩
def z8g (K : PySem.W.Frag) : Sp := fun vs H Q _ => ∃ (seed : Int), vs = [.int seed] ∧ ∀ l ∈ z5U, ∀ H', zM H H' → Q (.str l) H'
theorem jX : FnScope ["_law_seed", "_law_menu"] ["_law_seed"] (zv kM) := ⟨rfl, rfl, rfl, by decide +kernel, rfl, by decide +kernel, by decide +kernel⟩
theorem z5r (F : Fun K "_law_bad" "_law_bad" kM f fd) (T : Txt K mg) : FnOk P w K mg base CX0 1 f fd ["_law_seed"] (z8g K) := by
  refine F.ok jX (fun vs H Q E h => ?_) (fun cdv A outer s H vs Q E hr h => ?_)
  · obtain ⟨seed, rfl, _⟩ := h
    rfl
  obtain ⟨seed, rfl, q⟩ := h;refine ⟨_, (zj (zu (i := 1) jX.nd rfl (Or.inl rfl) (zV (zn zm (zn zm (zn zm (zn zm (zn zm (zn zm zi))))))))
    (zj (zu (i := 1) jX.nd rfl (Or.inl rfl) (zr jR (pv 1) (zV (zn zm (zn zm (zn zm (zn zm zi)))))))
    (zj (zu (i := 1) jX.nd rfl (Or.inl rfl) (zr jR (pv 1) (zV (zn zm (zn zm (zn zm (zn zm (zn zm zi))))))))
    (zj (zu (i := 1) jX.nd rfl (Or.inl rfl) (zr jR (pv 1) (zV (zn zm (zn zm (zn zm (zn zm zi)))))))
    (zj (zu (i := 1) jX.nd rfl (Or.inl rfl) (zr jR (pv 1) (zV (zn zm (zn zm (zn zm (zn zm (zn zm (zn zm zi)))))))))
    (zj (zu (i := 1) jX.nd rfl (Or.inl rfl) (zr jR (pv 1) (zV (zn zm (zn zm (zn zm (zn zm (zn zm zi))))))))
    (zj (zu (i := 1) jX.nd rfl (Or.inl rfl) (zr jR (pv 1) (zV (zn zm (zn zm (zn zm zi))))))
    (zj (zu (i := 1) jX.nd rfl (Or.inl rfl) (zr jR (pv 1) (zV (zn zm (zn zm (zn zm zi))))))
    (zq (zR (zw zT (pv 1) (zr j8 (pv 0) (zI zK rfl T.len PySem.boot_len (zl (pv 1) zi))) (fun _ _ => rfl)))))))))))), ?_⟩
  have tz : ∀ (x : Nat), x ≤ 100 → x ≤ sizeLine := fun x h => zt (by omega)
  refine ⟨tz 6 (by decide), fun m0 f0 => ?_⟩;refine zc (upd _ m0 _) rfl f0 fun H0 n0 x0 => ?_
  refine ⟨_, rfl, tz 4 (by decide), fun l1 g1 => ?_⟩;refine zc (upd _ l1 _) rfl g1 fun G1 k1 y1 => ?_
  refine ⟨m0, l1, _, _, rfl, rfl, k1 _ _ x0, y1, tz 10 (by decide), fun m1 f1 => ?_⟩;refine zc (upd _ m1 _) rfl f1 fun H1 n1 x1 => ?_
  refine ⟨_, rfl, tz 5 (by decide), fun l2 g2 => ?_⟩;refine zc (upd _ l2 _) rfl g2 fun G2 k2 y2 => ?_
  refine ⟨m1, l2, _, _, rfl, rfl, k2 _ _ x1, y2, tz 15 (by decide), fun m2 f2 => ?_⟩;refine zc (upd _ m2 _) rfl f2 fun H2 n2 x2 => ?_
  refine ⟨_, rfl, tz 4 (by decide), fun l3 g3 => ?_⟩;refine zc (upd _ l3 _) rfl g3 fun G3 k3 y3 => ?_
  refine ⟨m2, l3, _, _, rfl, rfl, k3 _ _ x2, y3, tz 19 (by decide), fun m3 f3 => ?_⟩;refine zc (upd _ m3 _) rfl f3 fun H3 n3 x3 => ?_
  refine ⟨_, rfl, tz 6 (by decide), fun l4 g4 => ?_⟩;refine zc (upd _ l4 _) rfl g4 fun G4 k4 y4 => ?_
  refine ⟨m3, l4, _, _, rfl, rfl, k4 _ _ x3, y4, tz 25 (by decide), fun m4 f4 => ?_⟩;refine zc (upd _ m4 _) rfl f4 fun H4 n4 x4 => ?_
  refine ⟨_, rfl, tz 5 (by decide), fun l5 g5 => ?_⟩;refine zc (upd _ l5 _) rfl g5 fun G5 k5 y5 => ?_
  refine ⟨m4, l5, _, _, rfl, rfl, k5 _ _ x4, y5, tz 30 (by decide), fun m5 f5 => ?_⟩;refine zc (upd _ m5 _) rfl f5 fun H5 n5 x5 => ?_
  refine ⟨_, rfl, tz 3 (by decide), fun l6 g6 => ?_⟩;refine zc (upd _ l6 _) rfl g6 fun G6 k6 y6 => ?_
  refine ⟨m5, l6, _, _, rfl, rfl, k6 _ _ x5, y6, tz 33 (by decide), fun m6 f6 => ?_⟩;refine zc (upd _ m6 _) rfl f6 fun H6 n6 x6 => ?_
  refine ⟨_, rfl, tz 3 (by decide), fun l7 g7 => ?_⟩;refine zc (upd _ l7 _) rfl g7 fun G7 k7 y7 => ?_
  refine ⟨m6, l7, _, _, rfl, rfl, k7 _ _ x6, y7, tz 36 (by decide), fun m7 f7 => ?_⟩;refine zc (upd _ m7 _) rfl f7 fun H7 n7 x7 => ?_
  replace x7 : H7 m7 = some (.lst (z5U.map V.str)) := x7;have hb : (z5U.map V.str).length = 36 := rfl;obtain ⟨h0, h1⟩ := kK (i := seed) (n := 36) (by decide);have hlt : (seed % 36).toNat < z5U.length := by show _ < 36; omega
  have e : atI (z5U.map V.str) (seed % 36) = some (V.str z5U[(seed % 36).toNat]) := z4x h0 (by rw [List.getElem?_map, List.getElem?_eq_getElem hlt]; rfl);refine ⟨_, rfl, _, rfl, _, rfl, m7, _, rfl, .inl (SqL.of x7), _, _, rfl, rfl, (by show (0 : Int) < 36; decide), m7, _, _, _, rfl, rfl, SqL.of x7, e, ?_⟩;exact q _ (List.getElem_mem hlt) _ (((((((n0.trans (k1.trans n1)).trans (k2.trans n2)).trans (k3.trans n3)).trans (k4.trans n4)).trans (k5.trans n5)).trans (k6.trans n6)).trans (k7.trans n7))
def ts2 (a b : Str) : Tr := tl [.s a, .s b]
def z4L : List (Str × Tr) := [("(sort sort pick)", tl [.s "sort", .s "sort", ts2 "table" "pick"]), ("(cols cols first both)", tl [.s "cols", ts2 "cols" "first", ts2 "table" "both"]), ("(pick (same 0 -7) less)", tl [.s "pick", tl [.s "same", .i 0, .i (-7)], ts2 "table" "less"]),
  ("(pair (first 0 group) t)", tl [.s "pair", tl [.s "first", .i 0, ts2 "table" "group"], ts2 "table" "t"]), ("(cols and or (sort not pair))", tl [.s "cols", ts2 "and" "or", tl [.s "sort", .s "not", ts2 "table" "pair"]]), ("(join same join t u)", tl [.s "join", .s "same", .s "join", ts2 "table" "t", ts2 "table" "u"])]
mutual
def eqT : Tr → Tr → Bool
  | .s x, .s y => decide (x = y)
  | .i m, .i n => decide (m = n)
  | .t l, .t r => z7Q l r
  | _, _ => false
def z7Q : Trs → Trs → Bool
  | .nil, .nil => true
  | .cons a l, .cons b r => eqT a b && z7Q l r
  | _, _ => false
end
mutual
theorem z8c : ∀ {a b : Tr}, eqT a b = true → a = b
  | .s x, .s y, h => by simp only [eqT, decide_eq_true_eq] at h; rw [h]
  | .i m, .i n, h => by simp only [eqT, decide_eq_true_eq] at h; rw [h]
  | .t l, .t r, h => by simp only [eqT] at h; rw [z6R h]
  | .s _, .i _, h => by simp [eqT] at h
  | .s _, .t _, h => by simp [eqT] at h
  | .i _, .s _, h => by simp [eqT] at h
  | .i _, .t _, h => by simp [eqT] at h
  | .t _, .s _, h => by simp [eqT] at h
  | .t _, .i _, h => by simp [eqT] at h
theorem z6R : ∀ {a b : Trs}, z7Q a b = true → a = b
  | .nil, .nil, _ => rfl
  | .cons a l, .cons b r, h => by
    simp only [z7Q, Bool.and_eq_true] at h;rw [z8c h.1, z6R h.2]
  | .nil, .cons _ _, h => by simp [z7Q] at h
  | .cons _ _, .nil, h => by simp [z7Q] at h
end
def zaf (p : Str × Tr) : Bool := decide (p.1.length ≤ 100) && (p.1.cps.toList.all fun c => decide (c < 128)) && (match y0 p.1 with | some t => eqT t p.2 | none => false) && decide (p.2.size ≤ 100)
theorem z9Q : ∀ p ∈ z4L, zaf p = true := by decide +kernel
theorem z8O {p : Str × Tr} (h : p ∈ z4L) : p.1.length ≤ 100 ∧ (∀ c ∈ p.1.cps.toList, c < 128) ∧ y0 p.1 = some p.2 ∧ p.2.size ≤ 100 := by
  have := z9Q p h;unfold zaf at this;simp only [Bool.and_eq_true, decide_eq_true_eq, List.all_eq_true] at this;refine ⟨this.1.1.1, this.1.1.2, ?_, this.2⟩;have h3 := this.1.2;cases e : y0 p.1 with
  | none => rw [e] at h3; cases h3
  | some t => rw [e] at h3; rw [z8c h3]
def z8z (K : PySem.W.Frag) : Sp := fun vs H Q _ => ∃ (seed : Int), vs = [.int seed] ∧ ∀ (p : Addr) (v : V) (H' : Hp), zM H H' → H' p = some (.tup [.str (z4L.getD (seed % 6).toNat ("", .i 0)).1, v]) → jN H' (z4L.getD (seed % 6).toNat ("", .i 0)).2 v → Q (.ref p) H'
theorem jG : FnScope ["_law_seed", "_law_menu", "_law_less", "_law_inner", "_law_two", "_law_both"] ["_law_seed"] (zv kQ) := ⟨rfl, rfl, rfl, by decide +kernel, rfl, by decide +kernel, by decide +kernel⟩
theorem z5o (F : Fun K "_law_odd" "_law_odd" kQ f fd) (T : Txt K mg) : FnOk P w K mg base CX0 1 f fd ["_law_seed"] (z8z K) := by
  refine F.ok jG (fun vs H Q E h => ?_) (fun cdv A outer s H vs Q E hr h => ?_)
  · obtain ⟨seed, rfl, _⟩ := h
    rfl
  obtain ⟨seed, rfl, q⟩ := h;have tz : ∀ (x : Nat), x ≤ 100 → x ≤ sizeLine := fun x h => zt (by omega)
  refine ⟨_, (zj (zu (i := 1) jG.nd rfl (Or.inl rfl) (zV (zS (zJ (zn zm (zS (zJ (zn zm (zn zm (zS (zJ (zn zm (zn zm zi))) zi)))) zi))) zi)))
    (zj (zu (i := 1) jG.nd rfl (Or.inl rfl) (zr jR (pv 1) (zV (zS (zJ (zn zm (zS (zJ (zn zm (zS (zJ (zn zm (zn zm zi))) (zS (zJ (zn zm (zn zm zi))) zi)))) zi))) zi))))
    (zj (zu (i := 2) jG.nd rfl (Or.inl rfl) (zJ (zn zm (zS (zJ (zn zm (zn zd (z7h (z1g z0h zd) zi)))) (zS (zJ (zn zm (zn zm zi))) zi)))))
    (zj (zu (i := 1) jG.nd rfl (Or.inl rfl) (zr jR (pv 1) (zV (zS (zJ (zn zm (zl (pv 2) zi))) zi))))
    (zj (zu (i := 3) jG.nd rfl (Or.inl rfl) (zJ (zn zm (zn zd (zS (zJ (zn zm (zn zm zi))) zi)))))
    (zj (zu (i := 1) jG.nd rfl (Or.inl rfl) (zr jR (pv 1) (zV (zS (zJ (zn zm (zS (zJ (zn zm (zl (pv 3) (zS (zJ (zn zm (zn zm zi))) zi)))) zi))) zi))))
    (zj (zu (i := 4) jG.nd rfl (Or.inl rfl) (zJ (zn zm (zS (zJ (zn zm (zn zm zi))) (zS (zJ (zn zm (zn zm (zS (zJ (zn zm (zn zm zi))) zi)))) zi)))))
    (zj (zu (i := 1) jG.nd rfl (Or.inl rfl) (zr jR (pv 1) (zV (zS (zJ (zn zm (zl (pv 4) zi))) zi))))
    (zj (zu (i := 5) jG.nd rfl (Or.inl rfl) (zJ (zn zm (zn zm (zn zm (zS (zJ (zn zm (zn zm zi))) (zS (zJ (zn zm (zn zm zi))) zi)))))))
    (zj (zu (i := 1) jG.nd rfl (Or.inl rfl) (zr jR (pv 1) (zV (zS (zJ (zn zm (zl (pv 5) zi))) zi))))
    (zq (zR (zw zT (pv 1) (zr j8 (pv 0) zd) (fun _ _ => rfl)))))))))))))), ?_⟩
  refine ⟨tz 2 (by decide), fun a1 f0 => ?_⟩;refine zc (upd _ a1 _) rfl f0 fun H0 n0 x0 => ?_
  refine ⟨tz 3 (by decide), fun a2 f1 => ?_⟩;refine zc (upd _ a2 _) rfl f1 fun H1 n1 x1 => ?_
  refine ⟨tz 2 (by decide), fun a3 f2 => ?_⟩;refine zc (upd _ a3 _) rfl f2 fun H2 n2 x2 => ?_
  refine ⟨tz 1 (by decide), fun m0 f3 => ?_⟩;refine zc (upd _ m0 _) rfl f3 fun H3 n3 x3 => ?_
  refine ⟨_, rfl, tz 2 (by decide), fun b1 f4 => ?_⟩;refine zc (upd _ b1 _) rfl f4 fun H4 n4 x4 => ?_
  refine ⟨tz 2 (by decide), fun b2 f5 => ?_⟩;refine zc (upd _ b2 _) rfl f5 fun H5 n5 x5 => ?_
  refine ⟨tz 3 (by decide), fun b3 f6 => ?_⟩;refine zc (upd _ b3 _) rfl f6 fun H6 n6 x6 => ?_
  refine ⟨tz 2 (by decide), fun b4 f7 => ?_⟩;refine zc (upd _ b4 _) rfl f7 fun H7 n7 x7 => ?_
  refine ⟨tz 1 (by decide), fun l1 f8 => ?_⟩;refine zc (upd _ l1 _) rfl f8 fun H8 n8 x8 => ?_
  refine ⟨m0, l1, _, _, rfl, rfl, n8 _ _ (n7 _ _ (n6 _ _ (n5 _ _ (n4 _ _ (x3))))), x8, tz 2 (by decide), fun m1 f9 => ?_⟩;refine zc (upd _ m1 _) rfl f9 fun H9 n9 x9 => ?_
  refine ⟨_, rfl, tz 3 (by decide), fun c1 f10 => ?_⟩;refine zc (upd _ c1 _) rfl f10 fun H10 n10 x10 => ?_
  refine ⟨tz 2 (by decide), fun c2 f11 => ?_⟩;refine zc (upd _ c2 _) rfl f11 fun H11 n11 x11 => ?_
  refine ⟨tz 3 (by decide), fun c3 f12 => ?_⟩;refine zc (upd _ c3 _) rfl f12 fun H12 n12 x12 => ?_
  refine ⟨_, rfl, _, rfl, tz 2 (by decide), fun d1 f13 => ?_⟩;refine zc (upd _ d1 _) rfl f13 fun H13 n13 x13 => ?_
  refine ⟨tz 1 (by decide), fun l2 f14 => ?_⟩;refine zc (upd _ l2 _) rfl f14 fun H14 n14 x14 => ?_
  refine ⟨m1, l2, _, _, rfl, rfl, n14 _ _ (n13 _ _ (n12 _ _ (n11 _ _ (n10 _ _ (x9))))), x14, tz 3 (by decide), fun m2 f15 => ?_⟩;refine zc (upd _ m2 _) rfl f15 fun H15 n15 x15 => ?_
  refine ⟨tz 2 (by decide), fun e1 f16 => ?_⟩;refine zc (upd _ e1 _) rfl f16 fun H16 n16 x16 => ?_
  refine ⟨tz 3 (by decide), fun e2 f17 => ?_⟩;refine zc (upd _ e2 _) rfl f17 fun H17 n17 x17 => ?_
  refine ⟨_, rfl, _, rfl, tz 2 (by decide), fun g1 f18 => ?_⟩;refine zc (upd _ g1 _) rfl f18 fun H18 n18 x18 => ?_
  refine ⟨tz 3 (by decide), fun g2 f19 => ?_⟩;refine zc (upd _ g2 _) rfl f19 fun H19 n19 x19 => ?_
  refine ⟨tz 2 (by decide), fun g3 f20 => ?_⟩;refine zc (upd _ g3 _) rfl f20 fun H20 n20 x20 => ?_
  refine ⟨tz 1 (by decide), fun l3 f21 => ?_⟩;refine zc (upd _ l3 _) rfl f21 fun H21 n21 x21 => ?_
  refine ⟨m2, l3, _, _, rfl, rfl, n21 _ _ (n20 _ _ (n19 _ _ (n18 _ _ (n17 _ _ (n16 _ _ (x15)))))), x21, tz 4 (by decide), fun m3 f22 => ?_⟩;refine zc (upd _ m3 _) rfl f22 fun H22 n22 x22 => ?_
  refine ⟨tz 2 (by decide), fun h1 f23 => ?_⟩;refine zc (upd _ h1 _) rfl f23 fun H23 n23 x23 => ?_
  refine ⟨tz 2 (by decide), fun h2 f24 => ?_⟩;refine zc (upd _ h2 _) rfl f24 fun H24 n24 x24 => ?_
  refine ⟨tz 3 (by decide), fun h3 f25 => ?_⟩;refine zc (upd _ h3 _) rfl f25 fun H25 n25 x25 => ?_
  refine ⟨tz 3 (by decide), fun h4 f26 => ?_⟩;refine zc (upd _ h4 _) rfl f26 fun H26 n26 x26 => ?_
  refine ⟨_, rfl, _, rfl, tz 2 (by decide), fun i1 f27 => ?_⟩;refine zc (upd _ i1 _) rfl f27 fun H27 n27 x27 => ?_
  refine ⟨tz 1 (by decide), fun l4 f28 => ?_⟩;refine zc (upd _ l4 _) rfl f28 fun H28 n28 x28 => ?_
  refine ⟨m3, l4, _, _, rfl, rfl, n28 _ _ (n27 _ _ (n26 _ _ (n25 _ _ (n24 _ _ (n23 _ _ (x22)))))), x28, tz 5 (by decide), fun m4 f29 => ?_⟩;refine zc (upd _ m4 _) rfl f29 fun H29 n29 x29 => ?_
  refine ⟨tz 2 (by decide), fun j1 f30 => ?_⟩;refine zc (upd _ j1 _) rfl f30 fun H30 n30 x30 => ?_
  refine ⟨tz 2 (by decide), fun j2 f31 => ?_⟩;refine zc (upd _ j2 _) rfl f31 fun H31 n31 x31 => ?_
  refine ⟨tz 5 (by decide), fun j3 f32 => ?_⟩;refine zc (upd _ j3 _) rfl f32 fun H32 n32 x32 => ?_
  refine ⟨_, rfl, _, rfl, tz 2 (by decide), fun k1 f33 => ?_⟩;refine zc (upd _ k1 _) rfl f33 fun H33 n33 x33 => ?_
  refine ⟨tz 1 (by decide), fun l5 f34 => ?_⟩;refine zc (upd _ l5 _) rfl f34 fun H34 n34 x34 => ?_
  refine ⟨m4, l5, _, _, rfl, rfl, n34 _ _ (n33 _ _ (n32 _ _ (n31 _ _ (n30 _ _ (x29))))), x34, tz 6 (by decide), fun m5 f35 => ?_⟩;refine zc (upd _ m5 _) rfl f35 fun H35 n35 x35 => ?_
  have t35 : zM H35 H35 := zM.refl _;have t34 : zM H34 H35 := n35.trans t35;have t33 : zM H33 H35 := n34.trans t34;have t32 : zM H32 H35 := n33.trans t33;have t31 : zM H31 H35 := n32.trans t32;have t30 : zM H30 H35 := n31.trans t31;have t29 : zM H29 H35 := n30.trans t30;have t28 : zM H28 H35 := n29.trans t29;have t27 : zM H27 H35 := n28.trans t28;have t26 : zM H26 H35 := n27.trans t27;have t25 : zM H25 H35 := n26.trans t26;have t24 : zM H24 H35 := n25.trans t25;have t23 : zM H23 H35 := n24.trans t24;have t22 : zM H22 H35 := n23.trans t23;have t21 : zM H21 H35 := n22.trans t22;have t20 : zM H20 H35 := n21.trans t21;have t19 : zM H19 H35 := n20.trans t20;have t18 : zM H18 H35 := n19.trans t19;have t17 : zM H17 H35 := n18.trans t18;have t16 : zM H16 H35 := n17.trans t17;have t15 : zM H15 H35 := n16.trans t16;have t14 : zM H14 H35 := n15.trans t15;have t13 : zM H13 H35 := n14.trans t14;have t12 : zM H12 H35 := n13.trans t13;have t11 : zM H11 H35 := n12.trans t12;have t10 : zM H10 H35 := n11.trans t11;have t9 : zM H9 H35 := n10.trans t10;have t8 : zM H8 H35 := n9.trans t9;have t7 : zM H7 H35 := n8.trans t8;have t6 : zM H6 H35 := n7.trans t7;have t5 : zM H5 H35 := n6.trans t6;have t4 : zM H4 H35 := n5.trans t5;have t3 : zM H3 H35 := n4.trans t4;have t2 : zM H2 H35 := n3.trans t3;have t1 : zM H1 H35 := n2.trans t2;have t0 : zM H0 H35 := n1.trans t1;have tH : zM H H35 := n0.trans t0;obtain ⟨h0, h6⟩ := kK (i := seed) (n := 6) (by decide);have hlt : (seed % 6).toNat < 6 := by omega
  replace x35 : H35 m5 = some (.lst ([a3, b4, d1, g3, i1, k1].map V.ref)) := x35;have e : atI ([a3, b4, d1, g3, i1, k1].map V.ref) (seed % 6) = some (V.ref ([a3, b4, d1, g3, i1, k1][(seed % 6).toNat]'hlt)) := z4x h0 (by rw [List.getElem?_map, List.getElem?_eq_getElem (show (seed % 6).toNat < [a3, b4, d1, g3, i1, k1].length from hlt)]; rfl);refine ⟨_, rfl, _, rfl, _, _, rfl, rfl, (by show (0 : Int) < 6; decide), m5, _, _, _, rfl, rfl, SqL.of x35, e, ?_⟩;generalize (seed % 6).toNat = i at hlt q ⊢
  match i, hlt with
  | 0, _ => exact q _ _ _ tH (t2 _ _ x2) (yC (t1 _ _ x1) (.cons (kj _) (.cons (kj _) (.cons (yC (t0 _ _ x0) (.cons (kj _) (.cons (kj _) .nil))) .nil))))
  | 1, _ => exact q _ _ _ tH (t7 _ _ x7) (yC (t6 _ _ x6) (.cons (kj _) (.cons (yC (t4 _ _ x4) (.cons (kj _) (.cons (kj _) .nil))) (.cons (yC (t5 _ _ x5) (.cons (kj _) (.cons (kj _) .nil))) .nil))))
  | 2, _ => exact q _ _ _ tH (t13 _ _ x13) (yC (t12 _ _ x12) (.cons (kj _) (.cons (yC (t10 _ _ x10) (.cons (kj _) (.cons (zak _) (.cons (zak _) .nil)))) (.cons (yC (t11 _ _ x11) (.cons (kj _) (.cons (kj _) .nil))) .nil))))
  | 3, _ => exact q _ _ _ tH (t20 _ _ x20) (yC (t19 _ _ x19) (.cons (kj _) (.cons (yC (t17 _ _ x17) (.cons (kj _) (.cons (zak _) (.cons (yC (t16 _ _ x16) (.cons (kj _) (.cons (kj _) .nil))) .nil)))) (.cons (yC (t18 _ _ x18) (.cons (kj _) (.cons (kj _) .nil))) .nil))))
  | 4, _ => exact q _ _ _ tH (t27 _ _ x27) (yC (t26 _ _ x26) (.cons (kj _) (.cons (yC (t23 _ _ x23) (.cons (kj _) (.cons (kj _) .nil))) (.cons (yC (t25 _ _ x25) (.cons (kj _) (.cons (kj _) (.cons (yC (t24 _ _ x24) (.cons (kj _) (.cons (kj _) .nil))) .nil)))) .nil))))
  | 5, _ => exact q _ _ _ tH (t33 _ _ x33) (yC (t32 _ _ x32) (.cons (kj _) (.cons (kj _) (.cons (kj _) (.cons (yC (t30 _ _ x30) (.cons (kj _) (.cons (kj _) .nil))) (.cons (yC (t31 _ _ x31) (.cons (kj _) (.cons (kj _) .nil))) .nil))))))

theorem z2q {x : Str} {l u : Option Int} {c : Nat} (h : c ∈ (Txt.slice x l u).cps.toList) : c ∈ x.cps.toList := by
  unfold Txt.slice at h;split at h
  · exact h
  · simp only [List.mem_filterMap] at h;obtain ⟨i, _, hi⟩ := h;obtain ⟨hlt, e⟩ := Array.getElem?_eq_some_iff.mp hi;rw [← e];exact Array.mem_toList_iff.mpr (Array.getElem_mem hlt)
theorem z99 (n : Nat) (h : 1 ≤ n) : Builtin.Str.strSliceIndices none (some (-1)) 1 n = Builtin.Str.strSliceIndices none (some ((n : Int) - 1)) 1 n := by
  unfold Builtin.Str.strSliceIndices;have e1 : ((-1 : Int) < 0) := by decide
  have e2 : ¬ ((n : Int) - 1 < 0) := by omega
  simp only [if_pos e1, if_neg e2];rw [show (-1 : Int) + n = n - 1 by omega]
theorem z9v {x : Str} {y : List Nat} {c : Nat} (e : x.cps.toList = y ++ [c]) : (Txt.slice x none (some (-1))).cps.toList = y := by
  have hl : x.length = y.length + 1 := by rw [len_list, e]; simp
  have h1 : Txt.slice x none (some (-1)) = StrLaws.sliceText x none (some ((x.length : Int) - 1)) := by
    unfold Txt.slice StrLaws.sliceText;rw [z99 x.length (by omega)]
  rw [h1, StrLaws.sliceText_to ⟨by omega, by rw [← len_list]; omega⟩]
  show (((x.cps.toList.drop 0).take (((x.length : Int) - 1) - 0).toNat).toArray).toList = y
  rw [show (((x.length : Int) - 1) - 0).toNat = y.length by omega, e];simp
theorem z7A : y0 (Txt.slice "t" none (some (-1))) = none := by decide +kernel
theorem tab_open : y0 ("(" ++ "t") = none := by decide +kernel
theorem zaj {x : Str} (h : Low x) : ∀ c ∈ x.cps.toList, c < 256 := fun c hc => by have := h c hc; omega
def z3I : Sp := fun vs H Q _ => ∃ (q : Qn) (turn seed : Int), vs = [.str (zz q), .int turn, .int seed] ∧ km q ∧ (∀ n, q = .table n → n = "t") ∧ (zz q).length ≤ 240000 ∧ 0 ≤ turn ∧ turn < 9 ∧
  ∀ l : Str, l.length ≤ 800000 → Low l → y0 l = none → Q (.str l) H
theorem z1a : FnScope ["_law_line", "_law_turn", "_law_seed", "_law_spot"] ["_law_line", "_law_turn", "_law_seed"] (zv yM) := ⟨rfl, rfl, rfl, by decide +kernel, rfl, by decide +kernel, by decide +kernel⟩
theorem z3y (F : Fun K "_law_marred" "_law_marred" yM f fd) (T : Txt K mg) : FnOk P w K mg base CX0 1 f fd ["_law_line", "_law_turn", "_law_seed"] z3I := by
  refine F.ok z1a (fun vs H Q E h => ?_) (fun cdv A outer s H vs Q E hr h => ?_)
  · obtain ⟨q, turn, seed, rfl, _⟩ := h
    rfl
  obtain ⟨qn, turn, seed, rfl, hg, htab, hl, h0, h9, q⟩ := h;have hlow := yG hg;have hlet := z6s hg;have hgd := yH hg;have hln := yq hg;have hs : (∀ n, qn ≠ .table n) → _ := z5Z hg;have hopen : y0 ("(" ++ zz qn) = none := by
    by_cases ht : ∃ n, qn = .table n
    · obtain ⟨n, rfl⟩ := ht;rw [htab n rfl]; exact tab_open
    · exact z4y (hs fun n e => ht ⟨n, e⟩).1
  have hshort : y0 (Txt.slice (zz qn) none (some (-1))) = none := by
    by_cases ht : ∃ n, qn = .table n
    · obtain ⟨n, rfl⟩ := ht;rw [htab n rfl]; exact z7A
    · obtain ⟨_, ⟨y, ey⟩, h2⟩ := hs fun n e => ht ⟨n, e⟩
      exact z3Y hgd hln h2 (by rw [z9v ey]; exact ey)
  have hclosed := z32 hgd hln;have htwice := z3Q hgd hln;have hne : (zz qn).length ≠ 0 := fun e => by
    obtain ⟨c, hc, _⟩ := hlet;rw [len_list] at e;rw [List.length_eq_zero_iff.mp e] at hc;cases hc
  have hrl : (Txt.replace (zz qn) " " "  ").length ≤ 480000 := by
    rw [len_list, blank_eq, show ("  " : Str) = ⟨#[32, 32]⟩ from by decide +kernel, StrLaws.replace_double];have hd : ∀ l : List Nat, (StrLaws.dbl 32 l).length ≤ 2 * l.length := fun l => by
      induction l with
      | nil => exact Nat.le_refl _
      | cons k r ih =>
        unfold StrLaws.dbl;split <;> simp only [List.length_cons] <;> omega
    have := hd (zz qn).cps.toList;rw [len_list] at hl;omega
  have hrlow := z6F hlow;have hblank : Low " " := lc (by decide +kernel);generalize zz qn = x at *;refine ⟨_, (zj (zu (i := 3) z1a.nd rfl (Or.inl rfl) (zr j8 (pv 2) (zI z0O rfl T.len PySem.boot_len (zl (pv 0) zi))))
    (zj (jc (zG jm (pv 1) zd (zN _))
      (zq (zR (zr zp (pv 0) zm)))
      zQ)
    (zj (jc (zG jm (pv 1) zd (zN _))
      (zq (zR (zr zp zm (pv 0))))
      zQ)
    (zj (jc (zG jm (pv 1) zd (zN _))
      (zq (zR (jh z3D (pv 0) jF (jq (z1g z0h zd)))))
      zQ)
    (zj (jc (zG jm (pv 1) zd (zN _))
      (zq (zR (zr zp (pv 0) zm)))
      zQ)
    (zj (jc (zG jm (pv 1) zd (zN _))
      (zq (zR (zr zp zm (pv 0))))
      zQ)
    (zj (jc (zG jm (pv 1) zd (zN _))
      (zq (zR (z60 PySem.F.plainAttrs_str PySem.F.slot_str_upper PySem.F.type_str_upper z8o (pv 0))))
      zQ)
    (zj (jc (zG jm (pv 1) zd (zN _))
      (zq (zR (zr zp (zr zp (jh z3D (pv 0) jF (jq (pv 3))) zm) (jh z3D (pv 0) (jq (pv 3)) jF))))
      zQ)
    (z7J (i := 1) rfl (Or.inl rfl) (zq (zR (zr zp (zr zp (pv 0) zm) (pv 0)))) (z6q (z8s (i := 0) rfl (Or.inl rfl)) zm)))))))))), ?_⟩
  refine ⟨_, rfl, _, rfl, x, rfl, zt (by omega), _, _, rfl, rfl, ?_, ?_⟩
  · have : 0 < x.length := Nat.pos_of_ne_zero hne
    show (0 : Int) < (x.length : Nat)
    omega
  have hxl : x.length ≤ sizeLine := zt (by omega);refine ⟨_, rfl, rfl, _, rfl, ?_⟩;refine yu (fun b0 => ?_) (fun b0 => ?_)
  · exact ⟨_, rfl, _, _, rfl, rfl, by (walk_at "sl"), q _ (by (walk_at "sl")) (zH hlow hblank) (z1c x)⟩
  refine ⟨_, rfl, rfl, _, rfl, ?_⟩;refine yu (fun b1 => ?_) (fun b1 => ?_)
  · exact ⟨_, rfl, _, _, rfl, rfl, by (walk_at "sl"), q _ (by (walk_at "sl")) (zH hblank hlow) (z3Z x)⟩
  refine ⟨_, rfl, rfl, _, rfl, ?_⟩;refine yu (fun b2 => ?_) (fun b2 => ?_)
  · exact ⟨_, rfl, _, rfl, _, rfl, x, rfl, hxl, q _ (Nat.le_trans (Txt.slice_le x _ _) (by omega)) (fun c hc => hlow c (z2q hc)) hshort⟩
  refine ⟨_, rfl, rfl, _, rfl, ?_⟩;refine yu (fun b3 => ?_) (fun b3 => ?_)
  · exact ⟨_, rfl, _, _, rfl, rfl, by (walk_at "sl"), q _ (by (walk_at "sl")) (zH hlow (lc (by decide +kernel))) hclosed⟩
  refine ⟨_, rfl, rfl, _, rfl, ?_⟩;refine yu (fun b4 => ?_) (fun b4 => ?_)
  · exact ⟨_, rfl, _, _, rfl, rfl, by (walk_at "sl"), q _ (by (walk_at "sl")) (zH (lc (by decide +kernel)) hlow) hopen⟩
  refine ⟨_, rfl, rfl, _, rfl, ?_⟩;refine yu (fun b5 => ?_) (fun b5 => ?_)
  · exact ⟨_, rfl, rfl, x, rfl, rfl, by omega, q _ (by have := PyProof.Rows.len_upper x; omega) (z7G hlow) (z3R hlow hlet)⟩
  refine ⟨_, rfl, rfl, _, rfl, ?_⟩;refine yu (fun b6 => ?_) (fun b6 => ?_)
  · have e1 := Txt.slice_le x none (some (seed % ((x.length : Nat) : Int)));have e2 := Txt.slice_le x (some (seed % ((x.length : Nat) : Int))) none;have e3 : ("_" : Str).length = 1 := by decide +kernel
    refine ⟨_, rfl, _, rfl, _, rfl, x, rfl, hxl, _, _, rfl, rfl, zt (by rw [e3]; omega), _, rfl, _, rfl, _, rfl, x, rfl, hxl, _, _, rfl, rfl, zt (by rw [Str.length_append, e3]; omega), ?_⟩;refine q _ (by rw [Str.length_append, Str.length_append, e3]; omega) (zH (zH (fun c hc => hlow c (z2q hc)) (lc (by decide +kernel))) fun c hc => hlow c (z2q hc)) ?_;refine z5u (c := 95) ?_ (by decide) (by decide) (by decide) (by decide);rw [app_list, app_list];exact List.mem_append_left _ (List.mem_append_right _ (by decide +kernel))
  refine ⟨turn, rfl, ?_⟩;by_cases h7 : turn = 7
  · rw [if_pos h7];exact ⟨_, rfl, _, _, rfl, rfl, by (walk_at "sl"), _, rfl, _, _, rfl, rfl, by (walk_at "sl"), q _ (by (walk_at "sl")) (zH (zH hlow hblank) hlow) htwice⟩
  · rw [if_neg h7];exact ⟨x, rfl, by omega, by decide +kernel, by decide +kernel, _, _, rfl, rfl, by (walk_at "sl"), q _ (by (walk_at "sl")) (zH hrlow hblank) (z1c _)⟩

structure TxtE (K : PySem.W.Frag) (mg : Str → Option Value) (Ca Cq Ct Cn : Addr) : Prop where
  ask : mg "AskError" = some (.ref Ca)
  noq : mg "NoQuestion" = some (.ref Cq)
  exq : PySem.W.excIn K Cq z24 "ValueError.__new__" = true
  tab : mg "NoTable" = some (.ref Ct)
  col : mg "NoColumn" = some (.ref Cn)
  exm : PySem.W.exmOne K (.ref Cq) (.ref Ca) = some true
  cls : ExcCls K Cq
  kt : PySem.W.kitOne K (.ref Cq) (.ref Ct) = some false
  kn : PySem.W.kitOne K (.ref Cq) (.ref Cn) = some false
theorem z5h {K : PySem.W.Frag} {C : Addr} : PySem.W.kitOne K (.ref C) (.ref C) = some true := by
  unfold PySem.W.kitOne;rw [if_pos (beq_self_eq_true _)]
theorem z4w {C : Addr} : ∀ u, RelV (.ref C) u → u = .ref C := fun _ r => r
theorem z7l {x : Str} (h : Low x) : ∀ p ∈ Txt.split x " ", Asc (Txt.slice p (some 1) none) := zc6 (zaj h)
def z2r : Sp := fun vs H Q _ => ∃ line : Str, vs = [.str line] ∧ line.length ≤ 800000 ∧ Low line ∧ y0 line = none ∧ ∀ H', zM H H' → Q (.bl true) H'
theorem z0R : FnScope ["_law_line", "e"] ["_law_line"] (zv yt) := ⟨rfl, rfl, rfl, by decide +kernel, rfl, by decide +kernel, by decide +kernel⟩
theorem z2M (F : Fun K "_law_refuses" "_law_refuses" yt f fd) (T : Txt K mg) {Ca Cq Ct Cn : Addr} (TE : TxtE K mg Ca Cq Ct Cn) (Cread : KnX P w K mg base 5 "read" ["line"] (z56 K Cq)) : FnOk P w K mg base CX0 6 f fd ["_law_line"] z2r := by
  refine F.ok z0R (fun vs H Q E h => ?_) (fun cdv A outer s H vs Q E hr h => ?_)
  · obtain ⟨line, rfl, _⟩ := h
    rfl
  obtain ⟨line, rfl, hlen, hlow, hno, q⟩ := h;have hAskError := TE.ask;have hNoTable := TE.tab;have hNoColumn := TE.col;have hNoQuestion := TE.noq;refine ⟨_, (zj (z8W (j := 1) rfl rfl (z8r (z5x Cread hr.m rfl (zl (pv 0) zi))) rfl hAskError z0R.nd rfl rfl fun _ =>
      (zj (jc (z2c (yU (zI (z0G (K := K) rfl) rfl T.isinstance PyProof.Rows.boot_isinstance (zl (pv 1) (zl (kr (v := .ref Ct) rfl hNoTable rfl) zi)))) (yU (zI (z0G (K := K) rfl) rfl T.isinstance PyProof.Rows.boot_isinstance (zl (pv 1) (zl (kr (v := .ref Cn) rfl hNoColumn rfl) zi)))))
        (zq (zR z0V))
        zQ)
      (zq (zR (zI (z0G (K := K) rfl) rfl T.isinstance PyProof.Rows.boot_isinstance (zl (pv 1) (zl (kr (v := .ref Cq) rfl hNoQuestion rfl) zi)))))))
    (zq (zR z0V))), ?_⟩
  refine ⟨_, rfl, line, rfl, hlen, z7l hlow, ?_⟩;rw [hno];intro H1 n1;refine ⟨Cq, rfl, TE.exm, fun ea hea => ?_⟩;refine zc (upd _ ea _) rfl hea fun H2 n2 x2 => ?_
  refine ⟨_, rfl, ea, Cq, _, _, _, rfl, z4w, x2, TE.cls, TE.kt, _, rfl, _, ⟨_, rfl, ea, Cq, _, _, _, rfl, z4w, x2, TE.cls, TE.kn, _, rfl, rfl, rfl⟩, ?_⟩;refine ifF rfl ?_;exact ⟨_, rfl, ea, Cq, _, _, _, rfl, z4w, x2, TE.cls, z5h, q _ (n1.trans n2)⟩
theorem za9 {H : Hp} {v : V} {p : Str × Tr} (h : p ∈ z4L) (t : jN H p.2 v) : ∃ dp, v = .ref dp := by
  have hs : ∀ p ∈ z4L, (match p.2 with | .t _ => true | _ => false) = true := by decide +kernel
  have := hs p h;cases e : p.2 with
  | s x => rw [e] at this; cases this
  | i n => rw [e] at this; cases this
  | t l =>
    rw [e] at t;simp only [jN] at t;obtain ⟨dp, _, rfl, _⟩ := t;exact ⟨dp, rfl⟩
theorem z8n (seed : Int) : z4L.getD (seed % 6).toNat ("", .i 0) ∈ z4L := by
  obtain ⟨h0, h6⟩ := kK (i := seed) (n := 6) (by decide);have hlt : (seed % 6).toNat < z4L.length := by show _ < 6; omega
  rw [List.getD_eq_getElem?_getD, List.getElem?_eq_getElem hlt];exact List.getElem_mem hlt
def z77 (K : PySem.W.Frag) : Sp := fun vs H Q _ => ∃ (a : Addr) (ns : List Int), vs = [.ref a] ∧ SqL K H a (ns.map V.int) ∧ ns.length ≤ 63 ∧ ∀ H', Q (.bl true) H'
theorem ki : FnScope ["_law_script", "_law_turn", "_law_seed", "_law_state", "_law_due", "_law_line", "_law_found", "_law_refused", "e", "_law_k"] ["_law_script"] (zv z1R) := ⟨rfl, rfl, rfl, by decide +kernel, rfl, by decide +kernel, by decide +kernel⟩
theorem zay (F : Fun K "law" "law" z1R f fd) (T : Txt K mg) {Ca Cq Ct Cn : Addr} (TE : TxtE K mg Ca Cq Ct Cn) (C_law_at : Kn P w K mg base 1 "_law_at" ["_law_script", "_law_k"] (zaX K)) (C_law_wide : Kn P w K mg base 1 "_law_wide" ["_law_script", "_law_few", "_law_bound"] (z6H K)) (C_law_stocked : Kn P w K mg base 1 "_law_stocked" ["_law_cells", "_law_more"] (z2i K)) (C_law_grown : Kn P w K mg base 10 "_law_grown" ["_law_cells", "_law_tables"] (z4S K))
    (C_law_marred : Kn P w K mg base 1 "_law_marred" ["_law_line", "_law_turn", "_law_seed"] z3I) (C_law_bad : Kn P w K mg base 1 "_law_bad" ["_law_seed"] (z8g K)) (C_law_odd : Kn P w K mg base 1 "_law_odd" ["_law_seed"] (z8z K)) (Cread : KnX P w K mg base 5 "read" ["line"] (z56 K Cq)) (C_law_refuses : Kn P w K mg base 6 "_law_refuses" ["_law_line"] z2r) (C_law_like : Kn P w K mg base 2 "_law_like" ["_law_found", "_law_due"] (z61 K)) : FnOk P w K mg base CX0 11 f fd ["_law_script"] (z77 K) := by
  refine F.ok ki (fun vs H Q E h => ?_) (fun cdv A outer s H vs Q E hr h => ?_)
  · obtain ⟨a, ns, rfl, _⟩ := h
    rfl
  obtain ⟨a, ns, rfl, hS, hn, q⟩ := h;have hAskError := TE.ask;have hNoQuestion := TE.noq;refine ⟨_, (zj (zu (i := 1) ki.nd rfl (Or.inl rfl) (zr j8 (zX C_law_at hr.m rfl (zl (pv 0) (zn zd zi))) zd))
    (zj (zu (i := 2) ki.nd rfl (Or.inl rfl) (zX C_law_at hr.m rfl (zl (pv 0) (zn zd zi))))
    (zj (zu (i := 3) ki.nd rfl (Or.inl rfl) (zX C_law_grown hr.m rfl (zF (jh yB (pv 0) (jq zd) (jq zd)) (ya (zX C_law_stocked hr.m rfl (zF (jh yB (pv 0) (jq zd) (jq zd)) (ya (zX C_law_wide hr.m rfl (zl (pv 0) (zn zd (zn zd zi)))) zi))) zi))))
    (zj (zu (i := 4) ki.nd rfl (Or.inl rfl) z6d)
    (zj (zu (i := 5) ki.nd rfl (Or.inl rfl) zm)
    (zj (kN (zG z2F (pv 1) zd (zN _))
      (zq (zu (i := 5) ki.nd rfl (Or.inl rfl) (zX C_law_marred hr.m rfl (zF (zw zx (pv 3) zd (fun _ _ => rfl)) (zl (pv 1) (zl (pv 2) zi))))))
      (zq (jc (zG z2F (pv 1) zd (zN _))
        (zq (zu (i := 5) ki.nd rfl (Or.inl rfl) (zX C_law_bad hr.m rfl (zl (pv 2) zi))))
        (zj (zu (i := 5) ki.nd rfl (Or.inl rfl) (zw zx (zX C_law_odd hr.m rfl (zl (pv 2) zi)) zd (fun _ _ => rfl)))
        (zq (zu (i := 4) ki.nd rfl (Or.inl rfl) (zw zx (zX C_law_odd hr.m rfl (zl (pv 2) zi)) zd (fun _ _ => rfl))))))))
    (zj (zu (i := 6) ki.nd rfl (Or.inl rfl) z6d)
    (zj (zu (i := 7) ki.nd rfl (Or.inl rfl) z0V)
    (zj (z9z (z8W (j := 8) rfl rfl (z9Y (i := 6) ki.nd rfl (Or.inl rfl) (z5x Cread hr.m rfl (zl (pv 5) zi))) rfl hAskError ki.nd rfl rfl fun _ =>
      (zq (zu (i := 7) ki.nd rfl (Or.inl rfl) (zI (z0G (K := K) rfl) rfl T.isinstance PyProof.Rows.boot_isinstance (zl (pv 8) (zl (kr (v := .ref Cq) rfl hNoQuestion rfl) zi)))))))
    (zj (z02 PassesOwn.never rfl (kd rfl T.range (zn zd zi)) (yQ (i := 9) ki.nd rfl (Or.inl rfl))
      (zq (jc (z2s (yU (zX C_law_refuses hr.m rfl (ya (zX C_law_bad hr.m rfl (yd (zr yW (pv 2) (zr z1H zd (pv 9))) zi)) zi))))
        (zq (zR z0V))
        zQ)))
    (zj (jc (zG zaA (pv 4) z6d (zN _))
      (zq (zR (pv 7)))
      zQ)
    (zq (zR (z8X (z6u (pv 7)) (z6M (zX C_law_like hr.m rfl (zl (pv 6) (zl (pv 4) zi)))))))))))))))))), ?_⟩
  refine ⟨_, rfl, a, ns, 0, rfl, hS, hn, by decide, fun i0 => ⟨_, _, rfl, rfl, (by show (0 : Int) < 16; decide), ?_⟩⟩;refine ⟨_, rfl, a, ns, 1, rfl, hS, hn, by decide, fun seed => ?_⟩;obtain ⟨t0, t16⟩ := kK (i := i0) (n := 16) (by decide);refine ⟨_, rfl, _, rfl, _, rfl, a, _, rfl, hS, fun l1 hl1 => ?_⟩;rw [z1x];refine zc (upd _ l1 _) rfl hl1 fun H1 n1 x1 => ?_
  refine ⟨_, rfl, _, rfl, _, rfl, a, _, rfl, n1.seq hS, fun l2 hl2 => ?_⟩;rw [z1x];refine zc (upd _ l2 _) rfl hl2 fun H2 n2 x2 => ?_
  refine ⟨_, rfl, a, ns, 8, 180, rfl, (n1.trans n2).seq hS, hn, by decide, by decide, fun m H3 n3 m0 m1 => ?_⟩;have six : ∀ k : Nat, HT.sIx ns.length ns.length (some (k : Int)) = min k ns.length ∧ HT.sIx ns.length 0 (some (k : Int)) = min k ns.length := fun k => by
    have hk : ¬ ((k : Int) < 0) := by omega
    refine ⟨?_, ?_⟩ <;>
    · show (if (k : Int) < 0 then ((k : Int) + (ns.length : Int)).toNat else min (k : Int).toNat ns.length) = _
      rw [if_neg hk]
      rfl
  have c1 : ((ns.drop (HT.sIx ns.length 0 (some 2))).take (HT.sIx ns.length ns.length (some 14) - HT.sIx ns.length 0 (some 2))).length ≤ 24 := by
    rw [List.length_take, show HT.sIx ns.length ns.length (some 14) = _ from (six 14).1];omega
  have c2 : ((ns.drop (HT.sIx ns.length 0 (some 14))).take (HT.sIx ns.length ns.length (some 20) - HT.sIx ns.length 0 (some 14))).length ≤ 18 := by
    rw [List.length_take, show HT.sIx ns.length ns.length (some 20) = _ from (six 20).1, show HT.sIx ns.length 0 (some 14) = _ from (six 14).2];omega
  refine ⟨l2, _, m, rfl, SqL.of (n3 _ _ x2), c2, m0, by omega, fun p th tr H4 n4 T4 f4 => ?_⟩;refine ⟨l1, p, _, th, tr, rfl, SqL.of (n4 _ _ (n3 _ _ (n2 _ _ x1))), c1, T4, f4, fun v' qq used twice H5 n5 st5 gr hu ht => ?_⟩;obtain ⟨p', qv, hp, rp, rs, rfl, h1, h2, h3, h4, h5⟩ := st5;have hbig := gr.big c1;have hgood := kq T4 gr.ok;refine ⟨fun σ H' => ∃ (due : V) (l : Str), σ = [some (.ref a), some (.int (i0 % 16)), some (.int seed), some (.ref p'), some due, some (.str l), none, none, none, none] ∧ zM H5 H' ∧ l.length ≤ 800000 ∧ Low l ∧
    ((due = .non ∧ y0 l = none) ∨ ∃ (dp : Addr) (t : Tr), due = .ref dp ∧ y0 l = some t ∧ jN H' t due ∧ t.size ≤ 100), ?_, ?_⟩
  · refine ⟨_, rfl, _, _, rfl, rfl, _, rfl, ?_⟩;refine yu (fun b0 => ?_) (fun b0 => ?_)
    · refine ⟨_, rfl, p', _, _, _, rfl, rfl, SqT.of h1, yE, _, rfl, _, rfl, qq, _, seed, rfl, hgood, gr.top, hbig, t0, by simpa using b0, fun l hl hlow hno => ?_⟩;exact ⟨.non, l, rfl, zM.refl _, hl, hlow, .inl ⟨rfl, hno⟩⟩
    · refine ⟨_, rfl, _, _, rfl, rfl, _, rfl, ?_⟩;refine yu (fun b1 => ?_) (fun b1 => ?_)
      · refine ⟨_, rfl, seed, rfl, fun l hl H' n' => ?_⟩;obtain ⟨e1, e2, e3⟩ := z5j hl;exact ⟨.non, l, rfl, n', by omega, e2, .inl ⟨rfl, e3⟩⟩
      · refine ⟨_, rfl, seed, rfl, fun p6 v6 H6 n6 h6 t6 => ⟨p6, _, _, _, rfl, rfl, SqT.of h6, yc, ?_⟩⟩;refine ⟨_, rfl, seed, rfl, fun p7 v7 H7 n7 h7 t7 => ⟨p7, _, _, _, rfl, rfl, SqT.of h7, yE, ?_⟩⟩;obtain ⟨e1, e2, e3, e4⟩ := z8O (z8n seed);obtain ⟨dp, rfl⟩ := za9 (z8n seed) t7;exact ⟨_, _, rfl, n6.trans n7, by omega, e2, .inr ⟨dp, _, rfl, e3, t7, e4⟩⟩
  rintro σ H6 ⟨due, l, rfl, n6, hl, hlow, hcase⟩;refine ⟨fun σ H' => ∃ (due found : V) (l : Str) (r : Bool), σ = [some (.ref a), some (.int (i0 % 16)), some (.int seed), some (.ref p'), some due, some (.str l), some found, some (.bl r), none, none] ∧
    ((due = .non ∧ r = true) ∨ (r = false ∧ ∃ (dp : Addr) (t : Tr), due = .ref dp ∧ jN H' t found ∧ jN H' t due ∧ t.size ≤ 100)), ?_, ?_⟩
  · refine ⟨_, rfl, l, rfl, hl, z7l hlow, ?_⟩;rcases hcase with ⟨rfl, hno⟩ | ⟨dp, t, rfl, hyes, htr, hsz⟩
    · rw [hno];intro H7 n7;refine ⟨Cq, rfl, TE.exm, fun ea hea => ?_⟩;refine zc (upd _ ea _) rfl hea fun H8 n8 x8 => ?_
      refine ⟨_, rfl, ea, Cq, _, _, _, rfl, z4w, x8, TE.cls, z5h, ?_⟩;exact ⟨.non, .non, l, true, rfl, .inl ⟨rfl, rfl⟩⟩
    · rw [hyes];exact fun v7 H7 n7 t7 => ⟨_, v7, l, false, rfl, .inr ⟨rfl, dp, t, rfl, t7, htr.same n7, hsz⟩⟩
  rintro σ H7 ⟨due, found, l, r, rfl, hcase⟩;refine ⟨11, rfl, by decide, by decide, z0F (lo := 0) (n := 11) (fun i σ H' => ∃ o9, σ = [some (.ref a), some (.int (i0 % 16)), some (.int seed), some (.ref p'), some due, some (.str l), some found, some (.bl r), none, o9] ∧ zM H7 H') ⟨none, rfl, zM.refl _⟩ ?_ ?_⟩
  · rintro i σ H8 hi ⟨o9, rfl, n8⟩;refine ⟨_, rfl, _, rfl, _, _, rfl, rfl, .inl ⟨by decide, by decide⟩, _, _, rfl, rfl, _, rfl, fun l9 hl9 H9 n9 => ?_⟩;obtain ⟨e1, e2, e3⟩ := z5j hl9;refine ⟨l9, rfl, by omega, e2, e3, fun H10 n10 => ⟨_, rfl, ?_⟩⟩;exact ifF rfl ⟨_, rfl, n8.trans (n9.trans n10)⟩
  · rintro σ H8 ⟨o9, rfl, n8⟩;rcases hcase with ⟨rfl, rfl⟩ | ⟨rfl, dp, t, rfl, t7, t7', hsz⟩
    · refine ⟨_, rfl, rfl, _, rfl, ?_⟩;exact ifT rfl ⟨_, rfl, q _⟩
    · refine ⟨_, rfl, rfl, _, rfl, ?_⟩;refine ifF rfl ?_;refine ⟨_, rfl, _, rfl, _, rfl, ?_⟩;refine ifT rfl ?_;exact ⟨_, rfl, _, rfl, found, _, t, rfl, t7.same n8, t7'.same n8, by omega, fun H9 _ => q H9⟩
end
theorem all_mk {l : PySem.W.OpenLaw} {w : World} {K : PySem.W.Frag} {h : Heap} {mg : Str → Option Value} {fa f0 f1 f2 f3 f4 f5 f6 f7 f8 f9 f10 f11 f12 f13 f14 f15 f16 f17 f18 f19 f20 f21 f22 f23 f24 f25 f26 f27 f28 f29 f30 : Addr} (X : K.In h) (G : h.Ns mainGlobals mg) (hfa : mg "law" = some (.ref fa))
    {od0 an0 od1 an1 od2 an2 od3 an3 od4 an4 od5 an5 od6 an6 od7 an7 od8 an8 od9 an9 od10 an10 od11 an11 od12 an12 od13 an13 od14 an14 od15 an15 od16 an16 od17 an17 od18 an18 od19 an19 od20 an20 od21 an21 od22 an22 od23 an23 od24 an24 od25 an25 od26 an26 od27 an27 od28 an28 od29 an29 od30 an30 : Option Addr} {sl0 sl1 sl2 sl3 sl4 sl5 sl6 sl7 sl8 sl9 sl10 sl11 sl12 sl13 sl14 sl15 sl16 sl17 sl18 sl19 sl20 sl21 sl22 sl23 sl24 sl25 sl26 sl27 sl28 sl29 sl30 : Array (Option Value)} {oc0 kV0 dc0 pm0 cd0 ct0 oc1 kV1 dc1 pm1 cd1 ct1 oc2 kV2 dc2 pm2 cd2 ct2 oc3 kV3 dc3 pm3 cd3 ct3 oc4 kV4 dc4 pm4 cd4 ct4 oc5 kV5 dc5 pm5 cd5 ct5 oc6 kV6 dc6 pm6 cd6 ct6 oc7 kV7 dc7 pm7 cd7 ct7 oc8 kV8 dc8 pm8 cd8 ct8 oc9 kV9 dc9 pm9 cd9 ct9 oc10 kV10 dc10 pm10 cd10 ct10 oc11 kV11 dc11 pm11 cd11 ct11 oc12 kV12 dc12 pm12 cd12 ct12 oc13 kV13 dc13 pm13 cd13 ct13 oc14 kV14 dc14 pm14 cd14 ct14 oc15 kV15 dc15 pm15 cd15 ct15 oc16 kV16 dc16 pm16 cd16 ct16 oc17 kV17 dc17 pm17 cd17 ct17 oc18 kV18 dc18 pm18 cd18 ct18 oc19 kV19 dc19 pm19 cd19 ct19 oc20 kV20 dc20 pm20 cd20 ct20 oc21 kV21 dc21 pm21 cd21 ct21 oc22 kV22 dc22 pm22 cd22 ct22 oc23 kV23 dc23 pm23 cd23 ct23 oc24 kV24 dc24 pm24 cd24 ct24 oc25 kV25 dc25 pm25 cd25 ct25 oc26 kV26 dc26 pm26 cd26 ct26 oc27 kV27 dc27 pm27 cd27 ct27 oc28 kV28 dc28 pm28 cd28 ct28 oc29 kV29 dc29 pm29 cd29 ct29 oc30 kV30 dc30 pm30 cd30 ct30 : Value}
    (a0 : PySem.W.nsIn K mainGlobals "is_name" = some (some (.ref f0))) (l0 : K.lookup f0 = some ⟨oc0, od0, .func (PySem.W.fnOf "is_name" "is_name" (j7 z07) (j6 z07) (zv z07) .none kV0 dc0 pm0 an0 cd0 ct0), sl0⟩) (c0 : PySem.W.codeIn K cd0 "is_name" = true) (k0 : PySem.W.keepIn K (.ref f0) = true)
    (a1 : PySem.W.nsIn K mainGlobals "is_number" = some (some (.ref f1))) (l1 : K.lookup f1 = some ⟨oc1, od1, .func (PySem.W.fnOf "is_number" "is_number" (j7 ky) (j6 ky) (zv ky) .none kV1 dc1 pm1 an1 cd1 ct1), sl1⟩) (c1 : PySem.W.codeIn K cd1 "is_number" = true) (k1 : PySem.W.keepIn K (.ref f1) = true)
    (a2 : PySem.W.nsIn K mainGlobals "number_from" = some (some (.ref f2))) (l2 : K.lookup f2 = some ⟨oc2, od2, .func (PySem.W.fnOf "number_from" "number_from" (j7 yN) (j6 yN) (zv yN) .none kV2 dc2 pm2 an2 cd2 ct2), sl2⟩) (c2 : PySem.W.codeIn K cd2 "number_from" = true) (k2 : PySem.W.keepIn K (.ref f2) = true)
    (a3 : PySem.W.nsIn K mainGlobals "form_of" = some (some (.ref f3))) (l3 : K.lookup f3 = some ⟨oc3, od3, .func (PySem.W.fnOf "form_of" "form_of" (j7 z0a) (j6 z0a) (zv z0a) .none kV3 dc3 pm3 an3 cd3 ct3), sl3⟩) (c3 : PySem.W.codeIn K cd3 "form_of" = true) (k3 : PySem.W.keepIn K (.ref f3) = true)
    (a4 : PySem.W.nsIn K mainGlobals "taken" = some (some (.ref f4))) (l4 : K.lookup f4 = some ⟨oc4, od4, .func (PySem.W.fnOf "taken" "taken" (j7 z1v) (j6 z1v) (zv z1v) .none kV4 dc4 pm4 an4 cd4 ct4), sl4⟩) (c4 : PySem.W.codeIn K cd4 "taken" = true) (k4 : PySem.W.keepIn K (.ref f4) = true)
    (a5 : PySem.W.nsIn K mainGlobals "forms_behind" = some (some (.ref f5))) (l5 : K.lookup f5 = some ⟨oc5, od5, .func (PySem.W.fnOf "forms_behind" "forms_behind" (j7 yx) (j6 yx) (zv yx) .none kV5 dc5 pm5 an5 cd5 ct5), sl5⟩) (c5 : PySem.W.codeIn K cd5 "forms_behind" = true) (k5 : PySem.W.keepIn K (.ref f5) = true)
    (a6 : PySem.W.nsIn K mainGlobals "made" = some (some (.ref f6))) (l6 : K.lookup f6 = some ⟨oc6, od6, .func (PySem.W.fnOf "made" "made" (j7 z1d) (j6 z1d) (zv z1d) .none kV6 dc6 pm6 an6 cd6 ct6), sl6⟩) (c6 : PySem.W.codeIn K cd6 "made" = true) (k6 : PySem.W.keepIn K (.ref f6) = true)
    (a7 : PySem.W.nsIn K mainGlobals "closed" = some (some (.ref f7))) (l7 : K.lookup f7 = some ⟨oc7, od7, .func (PySem.W.fnOf "closed" "closed" (j7 z0D) (j6 z0D) (zv z0D) .none kV7 dc7 pm7 an7 cd7 ct7), sl7⟩) (c7 : PySem.W.codeIn K cd7 "closed" = true) (k7 : PySem.W.keepIn K (.ref f7) = true)
    (a8 : PySem.W.nsIn K mainGlobals "read" = some (some (.ref f8))) (l8 : K.lookup f8 = some ⟨oc8, od8, .func (PySem.W.fnOf "read" "read" (j7 z2u) (j6 z2u) (zv z2u) .none kV8 dc8 pm8 an8 cd8 ct8), sl8⟩) (c8 : PySem.W.codeIn K cd8 "read" = true) (k8 : PySem.W.keepIn K (.ref f8) = true)
    (a9 : PySem.W.nsIn K mainGlobals "_law_wide" = some (some (.ref f9))) (l9 : K.lookup f9 = some ⟨oc9, od9, .func (PySem.W.fnOf "_law_wide" "_law_wide" (j7 kA) (j6 kA) (zv kA) .none kV9 dc9 pm9 an9 cd9 ct9), sl9⟩) (c9 : PySem.W.codeIn K cd9 "_law_wide" = true) (k9 : PySem.W.keepIn K (.ref f9) = true)
    (a10 : PySem.W.nsIn K mainGlobals "_law_whole" = some (some (.ref f10))) (l10 : K.lookup f10 = some ⟨oc10, od10, .func (PySem.W.fnOf "_law_whole" "_law_whole" (j7 ke) (j6 ke) (zv ke) .none kV10 dc10 pm10 an10 cd10 ct10), sl10⟩) (c10 : PySem.W.codeIn K cd10 "_law_whole" = true) (k10 : PySem.W.keepIn K (.ref f10) = true)
    (a11 : PySem.W.nsIn K mainGlobals "_law_stocked" = some (some (.ref f11))) (l11 : K.lookup f11 = some ⟨oc11, od11, .func (PySem.W.fnOf "_law_stocked" "_law_stocked" (j7 jo) (j6 jo) (zv jo) .none kV11 dc11 pm11 an11 cd11 ct11), sl11⟩) (c11 : PySem.W.codeIn K cd11 "_law_stocked" = true) (k11 : PySem.W.keepIn K (.ref f11) = true)
    (a12 : PySem.W.nsIn K mainGlobals "_law_spelt" = some (some (.ref f12))) (l12 : K.lookup f12 = some ⟨oc12, od12, .func (PySem.W.fnOf "_law_spelt" "_law_spelt" (j7 yb) (j6 yb) (zv yb) .none kV12 dc12 pm12 an12 cd12 ct12), sl12⟩) (c12 : PySem.W.codeIn K cd12 "_law_spelt" = true) (k12 : PySem.W.keepIn K (.ref f12) = true)
    (a13 : PySem.W.nsIn K mainGlobals "_law_true" = some (some (.ref f13))) (l13 : K.lookup f13 = some ⟨oc13, od13, .func (PySem.W.fnOf "_law_true" "_law_true" (j7 yz) (j6 yz) (zv yz) .none kV13 dc13 pm13 an13 cd13 ct13), sl13⟩) (c13 : PySem.W.codeIn K cd13 "_law_true" = true) (k13 : PySem.W.keepIn K (.ref f13) = true)
    (a14 : PySem.W.nsIn K mainGlobals "_law_asking" = some (some (.ref f14))) (l14 : K.lookup f14 = some ⟨oc14, od14, .func (PySem.W.fnOf "_law_asking" "_law_asking" (j7 yJ) (j6 yJ) (zv yJ) .none kV14 dc14 pm14 an14 cd14 ct14), sl14⟩) (c14 : PySem.W.codeIn K cd14 "_law_asking" = true) (k14 : PySem.W.keepIn K (.ref f14) = true)
    (a15 : PySem.W.nsIn K mainGlobals "_law_picked" = some (some (.ref f15))) (l15 : K.lookup f15 = some ⟨oc15, od15, .func (PySem.W.fnOf "_law_picked" "_law_picked" (j7 yf) (j6 yf) (zv yf) .none kV15 dc15 pm15 an15 cd15 ct15), sl15⟩) (c15 : PySem.W.codeIn K cd15 "_law_picked" = true) (k15 : PySem.W.keepIn K (.ref f15) = true)
    (a16 : PySem.W.nsIn K mainGlobals "_law_columns" = some (some (.ref f16))) (l16 : K.lookup f16 = some ⟨oc16, od16, .func (PySem.W.fnOf "_law_columns" "_law_columns" (j7 jx) (j6 jx) (zv jx) .none kV16 dc16 pm16 an16 cd16 ct16), sl16⟩) (c16 : PySem.W.codeIn K cd16 "_law_columns" = true) (k16 : PySem.W.keepIn K (.ref f16) = true)
    (a17 : PySem.W.nsIn K mainGlobals "_law_sorted" = some (some (.ref f17))) (l17 : K.lookup f17 = some ⟨oc17, od17, .func (PySem.W.fnOf "_law_sorted" "_law_sorted" (j7 yh) (j6 yh) (zv yh) .none kV17 dc17 pm17 an17 cd17 ct17), sl17⟩) (c17 : PySem.W.codeIn K cd17 "_law_sorted" = true) (k17 : PySem.W.keepIn K (.ref f17) = true)
    (a18 : PySem.W.nsIn K mainGlobals "_law_headed" = some (some (.ref f18))) (l18 : K.lookup f18 = some ⟨oc18, od18, .func (PySem.W.fnOf "_law_headed" "_law_headed" (j7 yI) (j6 yI) (zv yI) .none kV18 dc18 pm18 an18 cd18 ct18), sl18⟩) (c18 : PySem.W.codeIn K cd18 "_law_headed" = true) (k18 : PySem.W.keepIn K (.ref f18) = true)
    (a19 : PySem.W.nsIn K mainGlobals "_law_doubled" = some (some (.ref f19))) (l19 : K.lookup f19 = some ⟨oc19, od19, .func (PySem.W.fnOf "_law_doubled" "_law_doubled" (j7 yn) (j6 yn) (zv yn) .none kV19 dc19 pm19 an19 cd19 ct19), sl19⟩) (c19 : PySem.W.codeIn K cd19 "_law_doubled" = true) (k19 : PySem.W.keepIn K (.ref f19) = true)
    (a20 : PySem.W.nsIn K mainGlobals "_law_beside" = some (some (.ref f20))) (l20 : K.lookup f20 = some ⟨oc20, od20, .func (PySem.W.fnOf "_law_beside" "_law_beside" (j7 yL) (j6 yL) (zv yL) .none kV20 dc20 pm20 an20 cd20 ct20), sl20⟩) (c20 : PySem.W.codeIn K cd20 "_law_beside" = true) (k20 : PySem.W.keepIn K (.ref f20) = true)
    (a21 : PySem.W.nsIn K mainGlobals "_law_united" = some (some (.ref f21))) (l21 : K.lookup f21 = some ⟨oc21, od21, .func (PySem.W.fnOf "_law_united" "_law_united" (j7 yg) (j6 yg) (zv yg) .none kV21 dc21 pm21 an21 cd21 ct21), sl21⟩) (c21 : PySem.W.codeIn K cd21 "_law_united" = true) (k21 : PySem.W.keepIn K (.ref f21) = true)
    (a22 : PySem.W.nsIn K mainGlobals "_law_counted" = some (some (.ref f22))) (l22 : K.lookup f22 = some ⟨oc22, od22, .func (PySem.W.fnOf "_law_counted" "_law_counted" (j7 jz) (j6 jz) (zv jz) .none kV22 dc22 pm22 an22 cd22 ct22), sl22⟩) (c22 : PySem.W.codeIn K cd22 "_law_counted" = true) (k22 : PySem.W.keepIn K (.ref f22) = true)
    (a23 : PySem.W.nsIn K mainGlobals "_law_grown" = some (some (.ref f23))) (l23 : K.lookup f23 = some ⟨oc23, od23, .func (PySem.W.fnOf "_law_grown" "_law_grown" (j7 yZ) (j6 yZ) (zv yZ) .none kV23 dc23 pm23 an23 cd23 ct23), sl23⟩) (c23 : PySem.W.codeIn K cd23 "_law_grown" = true) (k23 : PySem.W.keepIn K (.ref f23) = true)
    (a24 : PySem.W.nsIn K mainGlobals "_law_like" = some (some (.ref f24))) (l24 : K.lookup f24 = some ⟨oc24, od24, .func (PySem.W.fnOf "_law_like" "_law_like" (j7 kx) (j6 kx) (zv kx) .none kV24 dc24 pm24 an24 cd24 ct24), sl24⟩) (c24 : PySem.W.codeIn K cd24 "_law_like" = true) (k24 : PySem.W.keepIn K (.ref f24) = true)
    (a25 : PySem.W.nsIn K mainGlobals "_law_at" = some (some (.ref f25))) (l25 : K.lookup f25 = some ⟨oc25, od25, .func (PySem.W.fnOf "_law_at" "_law_at" (j7 z06) (j6 z06) (zv z06) .none kV25 dc25 pm25 an25 cd25 ct25), sl25⟩) (c25 : PySem.W.codeIn K cd25 "_law_at" = true) (k25 : PySem.W.keepIn K (.ref f25) = true)
    (a26 : PySem.W.nsIn K mainGlobals "_law_bad" = some (some (.ref f26))) (l26 : K.lookup f26 = some ⟨oc26, od26, .func (PySem.W.fnOf "_law_bad" "_law_bad" (j7 kM) (j6 kM) (zv kM) .none kV26 dc26 pm26 an26 cd26 ct26), sl26⟩) (c26 : PySem.W.codeIn K cd26 "_law_bad" = true) (k26 : PySem.W.keepIn K (.ref f26) = true)
    (a27 : PySem.W.nsIn K mainGlobals "_law_odd" = some (some (.ref f27))) (l27 : K.lookup f27 = some ⟨oc27, od27, .func (PySem.W.fnOf "_law_odd" "_law_odd" (j7 kQ) (j6 kQ) (zv kQ) .none kV27 dc27 pm27 an27 cd27 ct27), sl27⟩) (c27 : PySem.W.codeIn K cd27 "_law_odd" = true) (k27 : PySem.W.keepIn K (.ref f27) = true)
    (a28 : PySem.W.nsIn K mainGlobals "_law_marred" = some (some (.ref f28))) (l28 : K.lookup f28 = some ⟨oc28, od28, .func (PySem.W.fnOf "_law_marred" "_law_marred" (j7 yM) (j6 yM) (zv yM) .none kV28 dc28 pm28 an28 cd28 ct28), sl28⟩) (c28 : PySem.W.codeIn K cd28 "_law_marred" = true) (k28 : PySem.W.keepIn K (.ref f28) = true)
    (a29 : PySem.W.nsIn K mainGlobals "_law_refuses" = some (some (.ref f29))) (l29 : K.lookup f29 = some ⟨oc29, od29, .func (PySem.W.fnOf "_law_refuses" "_law_refuses" (j7 yt) (j6 yt) (zv yt) .none kV29 dc29 pm29 an29 cd29 ct29), sl29⟩) (c29 : PySem.W.codeIn K cd29 "_law_refuses" = true) (k29 : PySem.W.keepIn K (.ref f29) = true)
    (a30 : PySem.W.nsIn K mainGlobals "law" = some (some (.ref f30))) (l30 : K.lookup f30 = some ⟨oc30, od30, .func (PySem.W.fnOf "law" "law" (j7 z1R) (j6 z1R) (zv z1R) .none kV30 dc30 pm30 an30 cd30 ct30), sl30⟩) (c30 : PySem.W.codeIn K cd30 "law" = true) (k30 : PySem.W.keepIn K (.ref f30) = true)
    (z0 : PySem.W.nsIn K mainGlobals "isinstance" = some none)
    (z1 : PySem.W.nsIn K mainGlobals "int" = some none)
    (z2 : PySem.W.nsIn K mainGlobals "bool" = some none)
    (z3 : PySem.W.nsIn K mainGlobals "list" = some none)
    (z4 : PySem.W.nsIn K mainGlobals "tuple" = some none)
    (z5 : PySem.W.nsIn K mainGlobals "str" = some none)
    (z6 : PySem.W.nsIn K mainGlobals "len" = some none)
    (z7 : PySem.W.nsIn K mainGlobals "range" = some none)
    (z8 : PySem.W.nsIn K mainGlobals "min" = some none)
    (z9 : PySem.W.nsIn K mainGlobals "max" = some none)
    (z10 : PySem.W.nsIn K mainGlobals "sum" = some none)
    (z11 : PySem.W.nsIn K mainGlobals "sorted" = some none)
    (z12 : PySem.W.nsIn K mainGlobals "reversed" = some none)
    (z13 : PySem.W.nsIn K mainGlobals "zip" = some none)
    {tL : Tok} (cL : PySem.W.nsIn K mainGlobals "LETTERS" = some (some (.str "abcdefghijklmnopqrstuvwxyz" tL)))
    {tF : Tok} (cF : PySem.W.nsIn K mainGlobals "FIGURES" = some (some (.str "0123456789" tF)))
    {qa : Addr} (cQ : PySem.W.nsIn K mainGlobals "QUESTIONS" = some (some (.ref qa))) (ctQ : PyProof.Rows.KTD.tabLook (PyProof.Rows.KTD.datLooks fun b => K.lookup b) (fun b => K.lookup b) qa (questions.map fun p => (p.1, PyProof.Rows.KTD.Dat.tup (p.2.map PySem.PyData.str))) = true)
    {ca : Addr} (cC : PySem.W.nsIn K mainGlobals "CONDITIONS" = some (some (.ref ca))) (ctC : PyProof.Rows.KTD.tabLook (PyProof.Rows.KTD.datLooks fun b => K.lookup b) (fun b => K.lookup b) ca (conditions.map fun p => (p.1, PyProof.Rows.KTD.Dat.tup (p.2.map PySem.PyData.str))) = true)
    {Ca : Addr} (cA : PySem.W.nsIn K mainGlobals "AskError" = some (some (.ref Ca)))
    {Cq : Addr} (cNq : PySem.W.nsIn K mainGlobals "NoQuestion" = some (some (.ref Cq)))
    {Ct : Addr} (cNt : PySem.W.nsIn K mainGlobals "NoTable" = some (some (.ref Ct)))
    {Cn : Addr} (cNc : PySem.W.nsIn K mainGlobals "NoColumn" = some (some (.ref Cn)))
    (ctx1 : PySem.W.excIn K Cq z24 "ValueError.__new__" = true)
    (ctx2 : PySem.W.exmOne K (.ref Cq) (.ref Ca) = some true)
    (ctx3 : PySem.W.findIn K (.ref Cq) "__getattribute__" = some (some (.builtin "BaseException.__getattribute__")))
    (ctx4 : PySem.W.findIn K (.ref Cq) "__getattr__" = some none)
    (ctx5 : PySem.W.subIn K (.ref Cq) (.type "BaseException") = some true)
    (ctx6 : (PySem.W.clsIn K Cq).isSome = true)
    (ctx7 : PySem.W.findIn K (.ref Cq) "__class__" = some (some (.builtin "object.__class__")))
    (ctx8 : PySem.W.specialIn K (.builtin "object.__class__") "__get__" = some (some (.builtin "getset_descriptor.__get__")))
    (ctx9 : PySem.W.takesIn K (.builtin "object.__class__") = some true)
    (ctx10 : PySem.W.mroIn K Cq (.type "object") = some true)
    (ctx11 : PySem.W.kitOne K (.ref Cq) (.ref Ct) = some false)
    (ctx12 : PySem.W.kitOne K (.ref Cq) (.ref Cn) = some false)
    : ∃ fd : FuncData, (∀ (s : Shared) (v : Value), BindsTo s fd ⟨[v], []⟩ [("_law_script", v)]) ∧ ∀ base : Heap, K.In base → base.Ns mainGlobals mg → FnOk l.prog w K mg base CX0 11 fa fd ["_law_script"] (z77 K) := by
  have e := hfa.symm.trans (PySem.W.mg_of X G a30);cases e;have T : Txt K mg := ⟨PySem.W.mg_none_of X G z0, PySem.W.mg_none_of X G z1, PySem.W.mg_none_of X G z2, PySem.W.mg_none_of X G z3, PySem.W.mg_none_of X G z4, PySem.W.mg_none_of X G z5, PySem.W.mg_none_of X G z6, PySem.W.mg_none_of X G z7, PySem.W.mg_none_of X G z8, PySem.W.mg_none_of X G z9, PySem.W.mg_none_of X G z10, PySem.W.mg_none_of X G z11, PySem.W.mg_none_of X G z12, PySem.W.mg_none_of X G z13⟩;have F0 := ju (st := z07) l0 c0 k0;have b0 := F0.binds (ps := ["text"]) fun _ _ _ _ _ _ us hl => match us, hl with | [_], _ => rfl
  have F1 := ju (st := ky) l1 c1 k1;have b1 := F1.binds (ps := ["text"]) fun _ _ _ _ _ _ us hl => match us, hl with | [_], _ => rfl
  have F2 := ju (st := yN) l2 c2 k2;have b2 := F2.binds (ps := ["text"]) fun _ _ _ _ _ _ us hl => match us, hl with | [_], _ => rfl
  have F3 := ju (st := z0a) l3 c3 k3;have b3 := F3.binds (ps := ["part"]) fun _ _ _ _ _ _ us hl => match us, hl with | [_], _ => rfl
  have F4 := ju (st := z1v) l4 c4 k4;have b4 := F4.binds (ps := ["form", "part"]) fun _ _ _ _ _ _ us hl => match us, hl with | [_, _], _ => rfl
  have F5 := ju (st := yx) l5 c5 k5;have b5 := F5.binds (ps := ["word", "count"]) fun _ _ _ _ _ _ us hl => match us, hl with | [_, _], _ => rfl
  have F6 := ju (st := z1d) l6 c6 k6;have b6 := F6.binds (ps := ["word", "parts"]) fun _ _ _ _ _ _ us hl => match us, hl with | [_, _], _ => rfl
  have F7 := ju (st := z0D) l7 c7 k7;have b7 := F7.binds (ps := ["above", "piece"]) fun _ _ _ _ _ _ us hl => match us, hl with | [_, _], _ => rfl
  have F8 := ju (st := z2u) l8 c8 k8;have b8 := F8.binds (ps := ["line"]) fun _ _ _ _ _ _ us hl => match us, hl with | [_], _ => rfl
  have F9 := ju (st := kA) l9 c9 k9;have b9 := F9.binds (ps := ["_law_script", "_law_few", "_law_bound"]) fun _ _ _ _ _ _ us hl => match us, hl with | [_, _, _], _ => rfl
  have F10 := ju (st := ke) l10 c10 k10;have b10 := F10.binds (ps := ["_law_found"]) fun _ _ _ _ _ _ us hl => match us, hl with | [_], _ => rfl
  have F11 := ju (st := jo) l11 c11 k11;have b11 := F11.binds (ps := ["_law_cells", "_law_more"]) fun _ _ _ _ _ _ us hl => match us, hl with | [_, _], _ => rfl
  have F12 := ju (st := yb) l12 c12 k12;have b12 := F12.binds (ps := ["_law_condition"]) fun _ _ _ _ _ _ us hl => match us, hl with | [_], _ => rfl
  have F13 := ju (st := yz) l13 c13 k13;have b13 := F13.binds (ps := ["_law_condition", "_law_heads", "_law_row"]) fun _ _ _ _ _ _ us hl => match us, hl with | [_, _, _], _ => rfl
  have F14 := ju (st := yJ) l14 c14 k14;have b14 := F14.binds (ps := ["_law_heads", "_law_seed"]) fun _ _ _ _ _ _ us hl => match us, hl with | [_, _], _ => rfl
  have F15 := ju (st := yf) l15 c15 k15;have b15 := F15.binds (ps := ["_law_state", "_law_seed"]) fun _ _ _ _ _ _ us hl => match us, hl with | [_, _], _ => rfl
  have F16 := ju (st := jx) l16 c16 k16;have b16 := F16.binds (ps := ["_law_state", "_law_seed"]) fun _ _ _ _ _ _ us hl => match us, hl with | [_, _], _ => rfl
  have F17 := ju (st := yh) l17 c17 k17;have b17 := F17.binds (ps := ["_law_state", "_law_seed"]) fun _ _ _ _ _ _ us hl => match us, hl with | [_, _], _ => rfl
  have F18 := ju (st := yI) l18 c18 k18;have b18 := F18.binds (ps := ["_law_state", "_law_seed"]) fun _ _ _ _ _ _ us hl => match us, hl with | [_, _], _ => rfl
  have F19 := ju (st := yn) l19 c19 k19;have b19 := F19.binds (ps := ["_law_state", "_law_seed"]) fun _ _ _ _ _ _ us hl => match us, hl with | [_, _], _ => rfl
  have F20 := ju (st := yL) l20 c20 k20;have b20 := F20.binds (ps := ["_law_state", "_law_table", "_law_seed"]) fun _ _ _ _ _ _ us hl => match us, hl with | [_, _, _], _ => rfl
  have F21 := ju (st := yg) l21 c21 k21;have b21 := F21.binds (ps := ["_law_state", "_law_table", "_law_seed"]) fun _ _ _ _ _ _ us hl => match us, hl with | [_, _, _], _ => rfl
  have F22 := ju (st := jz) l22 c22 k22;have b22 := F22.binds (ps := ["_law_state", "_law_seed", "_law_sign"]) fun _ _ _ _ _ _ us hl => match us, hl with | [_, _, _], _ => rfl
  have F23 := ju (st := yZ) l23 c23 k23;have b23 := F23.binds (ps := ["_law_cells", "_law_tables"]) fun _ _ _ _ _ _ us hl => match us, hl with | [_, _], _ => rfl
  have F24 := ju (st := kx) l24 c24 k24;have b24 := F24.binds (ps := ["_law_found", "_law_due"]) fun _ _ _ _ _ _ us hl => match us, hl with | [_, _], _ => rfl
  have F25 := ju (st := z06) l25 c25 k25;have b25 := F25.binds (ps := ["_law_script", "_law_k"]) fun _ _ _ _ _ _ us hl => match us, hl with | [_, _], _ => rfl
  have F26 := ju (st := kM) l26 c26 k26;have b26 := F26.binds (ps := ["_law_seed"]) fun _ _ _ _ _ _ us hl => match us, hl with | [_], _ => rfl
  have F27 := ju (st := kQ) l27 c27 k27;have b27 := F27.binds (ps := ["_law_seed"]) fun _ _ _ _ _ _ us hl => match us, hl with | [_], _ => rfl
  have F28 := ju (st := yM) l28 c28 k28;have b28 := F28.binds (ps := ["_law_line", "_law_turn", "_law_seed"]) fun _ _ _ _ _ _ us hl => match us, hl with | [_, _, _], _ => rfl
  have F29 := ju (st := yt) l29 c29 k29;have b29 := F29.binds (ps := ["_law_line"]) fun _ _ _ _ _ _ us hl => match us, hl with | [_], _ => rfl
  have F30 := ju (st := z1R) l30 c30 k30;have b30 := F30.binds (ps := ["_law_script"]) fun _ _ _ _ _ _ us hl => match us, hl with | [_], _ => rfl
  have R : TxtR K mg := ⟨⟨_, PySem.W.mg_of X G cL⟩, ⟨_, PySem.W.mg_of X G cF⟩, ⟨_, PySem.W.mg_of X G cQ, ctQ⟩, ⟨_, PySem.W.mg_of X G cC, ctC⟩⟩;have TE : TxtE K mg Ca Cq Ct Cn := ⟨PySem.W.mg_of X G cA, PySem.W.mg_of X G cNq, ctx1, PySem.W.mg_of X G cNt, PySem.W.mg_of X G cNc, ctx2, ⟨ctx3, ctx4, ctx5, ctx6, ctx7, ctx8, ctx9, ctx10⟩, ctx11, ctx12⟩;refine ⟨PySem.W.fnOf "law" "law" (j7 z1R) (j6 z1R) (zv z1R) .none kV30 dc30 pm30 an30 cd30 ct30, fun s v => .of_eq rfl, fun base _ _ => ?_⟩;have N_is_name : Kn l.prog w K mg base 1 "is_name" ["text"] z6w := ⟨_, _, z63 F0 T R, PySem.W.mg_of X G a0, k0, b0⟩;have N_is_number : Kn l.prog w K mg base 1 "is_number" ["text"] z3C := ⟨_, _, z4N F1 T R, PySem.W.mg_of X G a1, k1, b1⟩;have N_number_from : Kn l.prog w K mg base 1 "number_from" ["text"] z2h := ⟨_, _, z3c F2 T R, PySem.W.mg_of X G a2, k2, b2⟩;have N_form_of : Kn l.prog w K mg base 1 "form_of" ["part"] (z3H K) := ⟨_, _, z6E F3 T R, PySem.W.mg_of X G a3, k3, b3⟩;have N_taken : KnX l.prog w K mg base 2 "taken" ["form", "part"] (z2Z K Cq) := ⟨_, _, z8u F4 T R TE.noq TE.exq N_form_of N_is_name N_is_number N_number_from, PySem.W.mg_of X G a4, k4, b4⟩;have N_forms_behind : KnX l.prog w K mg base 1 "forms_behind" ["word", "count"] (z4Z K Cq) := ⟨_, _, z2K F5 T R TE.noq TE.exq, PySem.W.mg_of X G a5, k5, b5⟩;have N_made : KnX l.prog w K mg base 3 "made" ["word", "parts"] (z6C K Cq) := ⟨_, _, z9O F6 T R TE.noq TE.exq N_forms_behind N_taken, PySem.W.mg_of X G a6, k6, b6⟩;have N_closed : KnX l.prog w K mg base 4 "closed" ["above", "piece"] (z3N K Cq) := ⟨_, _, z7Y F7 T TE.noq TE.exq N_made, PySem.W.mg_of X G a7, k7, b7⟩;have N_read : KnX l.prog w K mg base 5 "read" ["line"] (z56 K Cq) := ⟨_, _, z9y F8 T TE.noq TE.exq N_closed N_taken, PySem.W.mg_of X G a8, k8, b8⟩;have N__law_wide : Kn l.prog w K mg base 1 "_law_wide" ["_law_script", "_law_few", "_law_bound"] (z6H K) := ⟨_, _, z4K F9 T, PySem.W.mg_of X G a9, k9, b9⟩;have N__law_whole : Kn l.prog w K mg base 1 "_law_whole" ["_law_found"] z4P := ⟨_, _, z3T F10 T, PySem.W.mg_of X G a10, k10, b10⟩;have N__law_stocked : Kn l.prog w K mg base 1 "_law_stocked" ["_law_cells", "_law_more"] (z2i K) := ⟨_, _, z2L F11 T, PySem.W.mg_of X G a11, k11, b11⟩;have N__law_spelt : Kn l.prog w K mg base 7 "_law_spelt" ["_law_condition"] (z20 K 7) := ⟨_, _, z1D F12 T (fun kk spp h => ⟨_, _, h, PySem.W.mg_of X G a12, k12, b12⟩) 7, PySem.W.mg_of X G a12, k12, b12⟩;have N__law_true : Kn l.prog w K mg base 7 "_law_true" ["_law_condition", "_law_heads", "_law_row"] (z3u K 7) := ⟨_, _, z1Z F13 T (fun kk spp h => ⟨_, _, h, PySem.W.mg_of X G a13, k13, b13⟩) 7, PySem.W.mg_of X G a13, k13, b13⟩;have N__law_asking : Kn l.prog w K mg base 1 "_law_asking" ["_law_heads", "_law_seed"] (z3J K) := ⟨_, _, z3f F14 T, PySem.W.mg_of X G a14, k14, b14⟩;have N__law_picked : Kn l.prog w K mg base 8 "_law_picked" ["_law_state", "_law_seed"] (z1V K) := ⟨_, _, z3t F15 T N__law_asking N__law_true N__law_spelt, PySem.W.mg_of X G a15, k15, b15⟩;have N__law_columns : Kn l.prog w K mg base 1 "_law_columns" ["_law_state", "_law_seed"] (z2w K) := ⟨_, _, z2N F16 T, PySem.W.mg_of X G a16, k16, b16⟩;have N__law_sorted : Kn l.prog w K mg base 1 "_law_sorted" ["_law_state", "_law_seed"] (z1T K) := ⟨_, _, z3L F17 T, PySem.W.mg_of X G a17, k17, b17⟩;have N__law_headed : Kn l.prog w K mg base 1 "_law_headed" ["_law_state", "_law_seed"] (z1N K) := ⟨_, _, z3B F18 T, PySem.W.mg_of X G a18, k18, b18⟩;have N__law_doubled : Kn l.prog w K mg base 9 "_law_doubled" ["_law_state", "_law_seed"] (z2g K) := ⟨_, _, z2R F19 T N__law_picked, PySem.W.mg_of X G a19, k19, b19⟩;have N__law_beside : Kn l.prog w K mg base 1 "_law_beside" ["_law_state", "_law_table", "_law_seed"] (z3E K) := ⟨_, _, z3m F20 T, PySem.W.mg_of X G a20, k20, b20⟩;have N__law_united : Kn l.prog w K mg base 2 "_law_united" ["_law_state", "_law_table", "_law_seed"] (z3p K) := ⟨_, _, z35 F21 T N__law_sorted N__law_headed, PySem.W.mg_of X G a21, k21, b21⟩;have N__law_counted : Kn l.prog w K mg base 1 "_law_counted" ["_law_state", "_law_seed", "_law_sign"] (z2m K) := ⟨_, _, z2P F22 T, PySem.W.mg_of X G a22, k22, b22⟩;have N__law_grown : Kn l.prog w K mg base 10 "_law_grown" ["_law_cells", "_law_tables"] (z4S K) := ⟨_, _, z3V F23 T N__law_picked N__law_columns N__law_united N__law_beside N__law_doubled N__law_headed N__law_counted N__law_sorted, PySem.W.mg_of X G a23, k23, b23⟩;have N__law_like : Kn l.prog w K mg base 2 "_law_like" ["_law_found", "_law_due"] (z61 K) := ⟨_, _, z4H F24 T N__law_whole, PySem.W.mg_of X G a24, k24, b24⟩;have N__law_at : Kn l.prog w K mg base 1 "_law_at" ["_law_script", "_law_k"] (zaX K) := ⟨_, _, z6f F25 T, PySem.W.mg_of X G a25, k25, b25⟩;have N__law_bad : Kn l.prog w K mg base 1 "_law_bad" ["_law_seed"] (z8g K) := ⟨_, _, z5r F26 T, PySem.W.mg_of X G a26, k26, b26⟩;have N__law_odd : Kn l.prog w K mg base 1 "_law_odd" ["_law_seed"] (z8z K) := ⟨_, _, z5o F27 T, PySem.W.mg_of X G a27, k27, b27⟩;have N__law_marred : Kn l.prog w K mg base 1 "_law_marred" ["_law_line", "_law_turn", "_law_seed"] z3I := ⟨_, _, z3y F28 T, PySem.W.mg_of X G a28, k28, b28⟩;have N__law_refuses : Kn l.prog w K mg base 6 "_law_refuses" ["_law_line"] z2r := ⟨_, _, z2M F29 T TE N_read, PySem.W.mg_of X G a29, k29, b29⟩;exact zay F30 T TE N__law_at N__law_wide N__law_stocked N__law_grown N__law_marred N__law_bad N__law_odd N_read N__law_refuses N__law_like
theorem walk {l : PySem.W.OpenLaw} {q : Program} {loose : List Str} {XP : (Str → Option Value) → Heap → Prop} {YP : World → Heap → Prop} {d : DefRec} {K : Params → PySem.W.Frag} (hn : l.most = some 63) (hdf : d.params.defaults = [])
    (hY : ∀ (w : World) (h : Heap), YP w h → (K w.params).In h)
    (F : ∀ (w : World) (mg : Str → Option Value) (fa : Addr) (h : Heap), (K w.params).In h → h.Ns mainGlobals mg → mg d.name = some (.ref fa) →
      ∃ fd : FuncData, (∀ (s : Shared) (u : Value), BindsTo s fd ⟨[u], []⟩ [("_law_script", u)]) ∧ ∀ base : Heap, (K w.params).In base → base.Ns mainGlobals mg → FnOk l.prog w (K w.params) mg base CX0 11 fa fd ["_law_script"] (z77 (K w.params))) :
    PySem.W.WalkO q loose XP YP l.row.toRowW d [] (fun f vs => PySem.call f vs) :=
  L2.walk_of (n := 63) (k := 11) (x := "_law_script") (CX := fun _ => CX0) (sp := fun w => z77 (K w.params)) hn (by decide) hdf ⟨rfl, by decide, by decide⟩ hY F (fun _ _ a ns hl _ hS => ⟨a, ns, rfl, hS, hl, fun _ => rfl⟩) fun _ _ _ _ _ z => z
end Q4
def PySem.W.Fast.tw14635907825133010865 : Unit := ()
def PySem.W.Fast.tw9187729479823225804 : Unit := ()
def PySem.W.Fast.tw13923716762120587681 : Unit := ()
def PySem.W.Fast.tw11063596379639331895 : Unit := ()
def PySem.W.Fast.tw2618499095711344747 : Unit := ()
def PySem.W.Fast.tw8704868793550186589 : Unit := ()
def PySem.W.Fast.tw8372827756542250040 : Unit := ()
def PySem.W.Fast.tw9049456203386334551 : Unit := ()
def PySem.W.Fast.tw12398992389195864693 : Unit := ()
def PySem.W.Fast.tw16859004315860083252 : Unit := ()
def PySem.W.Fast.tw3276491876417968437 : Unit := ()
def PySem.W.Fast.tw2142962489416045642 : Unit := ()
def PySem.W.Fast.tw13827573512023959164 : Unit := ()
def PySem.W.Fast.tw10600467834318297091 : Unit := ()
def PySem.W.Fast.tw13585665111137185941 : Unit := ()
def PySem.W.Fast.tw10893545042025888401 : Unit := ()
def PySem.W.Fast.tw1528205983603162031 : Unit := ()
def PySem.W.Fast.tw7092248489805576584 : Unit := ()
def PySem.W.Fast.tw1312180279490839339 : Unit := ()
def PySem.W.Fast.tw11882951729119195462 : Unit := ()
def PySem.W.Fast.tw11419152065708766472 : Unit := ()
def PySem.W.Fast.tw10133249719723153718 : Unit := ()
def PySem.W.Fast.tw14612251549245766609 : Unit := ()
def PySem.W.Fast.tw14930884925463952392 : Unit := ()
def PySem.W.Fast.tw14081688355814887624 : Unit := ()
def PySem.W.Fast.tw14088108564785483804 : Unit := ()
def PySem.W.Fast.tw6574715632120717748 : Unit := ()
def PySem.W.Fast.tw17368583413795001405 : Unit := ()
def PySem.W.Fast.tw12033615413088920651 : Unit := ()
def PySem.W.Fast.tw14627930277523754158 : Unit := ()
def PySem.W.Fast.tw5144574650352725923 : Unit := ()
def PySem.W.Fast.tw3448844182647376255 : Unit := ()
def PySem.W.Fast.tw6739851707884998612 : Unit := ()
def PySem.W.Fast.tw13479824549154377814 : Unit := ()
def PySem.W.Fast.tw13931132272003762989 : Unit := ()
def PySem.W.Fast.tw14588773285659861109 : Unit := ()
def PySem.W.Fast.tw14036934070458554811 : Unit := ()
def PySem.W.Fast.tw12044830784466699042 : Unit := ()
def PySem.W.Fast.tw2933015871393780708 : Unit := ()
def PySem.W.Fast.tw181276847885914300 : Unit := ()
def PySem.W.Fast.tw1594354961897182106 : Unit := ()
def PySem.W.Fast.tw1999040755656866584 : Unit := ()
def PySem.W.Fast.tw4062304250980304762 : Unit := ()
def PySem.W.Fast.tw14450003899178220658 : Unit := ()
def PySem.W.Fast.tw8658289082180084412 : Unit := ()
def PySem.W.Fast.tw4549038352557905928 : Unit := ()
def PySem.W.Fast.tw7175935012942463333 : Unit := ()
def PySem.W.Fast.tw13853391779244465762 : Unit := ()
def PySem.W.Fast.tw9578918374549407337 : Unit := ()
def PySem.W.Fast.tw604662473319832724 : Unit := ()
def PySem.W.Fast.tw14391899665879883888 : Unit := ()
def PySem.W.Fast.tw10572203343579585582 : Unit := ()
def PySem.W.Fast.tw13202252402904849009 : Unit := ()
def PySem.W.Fast.tw685839821167538595 : Unit := ()
def PySem.W.Fast.tw11770692878580285192 : Unit := ()
def PySem.W.Fast.tw3728733712725764669 : Unit := ()
def PySem.W.Fast.tw1627577353453328372 : Unit := ()
def PySem.W.Fast.tw12883616429297699962 : Unit := ()
def PySem.W.Fast.tw4744333938621691819 : Unit := ()
def PySem.W.Fast.tw5902760339057377979 : Unit := ()
def PySem.W.Fast.tw795769029439787260 : Unit := ()
def PySem.W.Fast.tw16011355794865827376 : Unit := ()
def PySem.W.Fast.tw2925679855500505200 : Unit := ()
def PySem.W.Fast.tw12383068998959767436 : Unit := ()
def PySem.W.Fast.tw2481150383594538946 : Unit := ()
def PySem.W.Fast.tw13434182590761246594 : Unit := ()
def PySem.W.Fast.tw18153740516847656852 : Unit := ()
def PySem.W.Fast.tw10216031173916607386 : Unit := ()
def PySem.W.Fast.tw4822572145579365689 : Unit := ()
def PySem.W.Fast.tw12290714862656445010 : Unit := ()
def PySem.W.Fast.tw15080286411931269089 : Unit := ()
def PySem.W.Fast.tw6934434052487124323 : Unit := ()
def PySem.W.Fast.tw11662578867645214594 : Unit := ()
def PySem.W.Fast.tw4588230862467707906 : Unit := ()
open PySem PySem.W PyProof.Rows
set_option maxRecDepth 100000 in
set_option maxHeartbeats 0 in
theorem PySem.Challenge.cw_sheetask_k04_lines_refused_holds : PySem.Challenge.rw_sheetask_k04_lines_refused.Holds := by
  w_on; o_law; k_head; (case hw => w_witness2)
  k_fill
  refine Q4.walk (l := PySem.Challenge.rw_sheetask_k04_lines_refused) rfl rfl (fun w h Y => PySem.W.kIn_of Y) ?F
  case F =>
    intro w mg fa h KX G hmg;refine' Q4.all_mk KX G hmg ?a0 ?l0 ?c0 ?k0 ?a1 ?l1 ?c1 ?k1 ?a2 ?l2 ?c2 ?k2 ?a3 ?l3 ?c3 ?k3 ?a4 ?l4 ?c4 ?k4 ?a5 ?l5 ?c5 ?k5 ?a6 ?l6 ?c6 ?k6 ?a7 ?l7 ?c7 ?k7 ?a8 ?l8 ?c8 ?k8 ?a9 ?l9 ?c9 ?k9 ?a10 ?l10 ?c10 ?k10 ?a11 ?l11 ?c11 ?k11 ?a12 ?l12 ?c12 ?k12 ?a13 ?l13 ?c13 ?k13 ?a14 ?l14 ?c14 ?k14 ?a15 ?l15 ?c15 ?k15 ?a16 ?l16 ?c16 ?k16 ?a17 ?l17 ?c17 ?k17 ?a18 ?l18 ?c18 ?k18 ?a19 ?l19 ?c19 ?k19 ?a20 ?l20 ?c20 ?k20 ?a21 ?l21 ?c21 ?k21 ?a22 ?l22 ?c22 ?k22 ?a23 ?l23 ?c23 ?k23 ?a24 ?l24 ?c24 ?k24 ?a25 ?l25 ?c25 ?k25 ?a26 ?l26 ?c26 ?k26 ?a27 ?l27 ?c27 ?k27 ?a28 ?l28 ?c28 ?k28 ?a29 ?l29 ?c29 ?k29 ?a30 ?l30 ?c30 ?k30 ?z0 ?z1 ?z2 ?z3 ?z4 ?z5 ?z6 ?z7 ?z8 ?z9 ?z10 ?z11 ?z12 ?z13 ?cL ?cF ?cQ ?ctQ ?cC ?ctC ?cA ?cNq ?cNt ?cNc ?ctx1 ?ctx2 ?ctx3 ?ctx4 ?ctx5 ?ctx6 ?ctx7 ?ctx8 ?ctx9 ?ctx10 ?ctx11 ?ctx12
    (case a0 => k_is)
    (case l0 => k_is)
    (case c0 => k_is)
    (case k0 => k_is)
    (case a1 => k_is)
    (case l1 => k_is)
    (case c1 => k_is)
    (case k1 => k_is)
    (case a2 => k_is)
    (case l2 => k_is)
    (case c2 => k_is)
    (case k2 => k_is)
    (case a3 => k_is)
    (case l3 => k_is)
    (case c3 => k_is)
    (case k3 => k_is)
    (case a4 => k_is)
    (case l4 => k_is)
    (case c4 => k_is)
    (case k4 => k_is)
    (case a5 => k_is)
    (case l5 => k_is)
    (case c5 => k_is)
    (case k5 => k_is)
    (case a6 => k_is)
    (case l6 => k_is)
    (case c6 => k_is)
    (case k6 => k_is)
    (case a7 => k_is)
    (case l7 => k_is)
    (case c7 => k_is)
    (case k7 => k_is)
    (case a8 => k_is)
    (case l8 => k_is)
    (case c8 => k_is)
    (case k8 => k_is)
    (case a9 => k_is)
    (case l9 => k_is)
    (case c9 => k_is)
    (case k9 => k_is)
    (case a10 => k_is)
    (case l10 => k_is)
    (case c10 => k_is)
    (case k10 => k_is)
    (case a11 => k_is)
    (case l11 => k_is)
    (case c11 => k_is)
    (case k11 => k_is)
    (case a12 => k_is)
    (case l12 => k_is)
    (case c12 => k_is)
    (case k12 => k_is)
    (case a13 => k_is)
    (case l13 => k_is)
    (case c13 => k_is)
    (case k13 => k_is)
    (case a14 => k_is)
    (case l14 => k_is)
    (case c14 => k_is)
    (case k14 => k_is)
    (case a15 => k_is)
    (case l15 => k_is)
    (case c15 => k_is)
    (case k15 => k_is)
    (case a16 => k_is)
    (case l16 => k_is)
    (case c16 => k_is)
    (case k16 => k_is)
    (case a17 => k_is)
    (case l17 => k_is)
    (case c17 => k_is)
    (case k17 => k_is)
    (case a18 => k_is)
    (case l18 => k_is)
    (case c18 => k_is)
    (case k18 => k_is)
    (case a19 => k_is)
    (case l19 => k_is)
    (case c19 => k_is)
    (case k19 => k_is)
    (case a20 => k_is)
    (case l20 => k_is)
    (case c20 => k_is)
    (case k20 => k_is)
    (case a21 => k_is)
    (case l21 => k_is)
    (case c21 => k_is)
    (case k21 => k_is)
    (case a22 => k_is)
    (case l22 => k_is)
    (case c22 => k_is)
    (case k22 => k_is)
    (case a23 => k_is)
    (case l23 => k_is)
    (case c23 => k_is)
    (case k23 => k_is)
    (case a24 => k_is)
    (case l24 => k_is)
    (case c24 => k_is)
    (case k24 => k_is)
    (case a25 => k_is)
    (case l25 => k_is)
    (case c25 => k_is)
    (case k25 => k_is)
    (case a26 => k_is)
    (case l26 => k_is)
    (case c26 => k_is)
    (case k26 => k_is)
    (case a27 => k_is)
    (case l27 => k_is)
    (case c27 => k_is)
    (case k27 => k_is)
    (case a28 => k_is)
    (case l28 => k_is)
    (case c28 => k_is)
    (case k28 => k_is)
    (case a29 => k_is)
    (case l29 => k_is)
    (case c29 => k_is)
    (case k29 => k_is)
    (case a30 => k_is)
    (case l30 => k_is)
    (case c30 => k_is)
    (case k30 => k_is)
    (case z0 => k_is)
    (case z1 => k_is)
    (case z2 => k_is)
    (case z3 => k_is)
    (case z4 => k_is)
    (case z5 => k_is)
    (case z6 => k_is)
    (case z7 => k_is)
    (case z8 => k_is)
    (case z9 => k_is)
    (case z10 => k_is)
    (case z11 => k_is)
    (case z12 => k_is)
    (case z13 => k_is)
    (case cL => k_is)
    (case cF => k_is)
    (case cQ => k_is)
    (case ctQ => kernel_rfl)
    (case cC => k_is)
    (case ctC => kernel_rfl)
    (case cA => k_is)
    (case cNq => k_is)
    (case cNt => k_is)
    (case cNc => k_is)
    (case ctx1 => kernel_rfl)
    (case ctx2 => kernel_rfl)
    (case ctx3 => kernel_rfl)
    (case ctx4 => kernel_rfl)
    (case ctx5 => kernel_rfl)
    (case ctx6 => kernel_rfl)
    (case ctx7 => kernel_rfl)
    (case ctx8 => kernel_rfl)
    (case ctx9 => kernel_rfl)
    (case ctx10 => kernel_rfl)
    (case ctx11 => kernel_rfl)
    (case ctx12 => kernel_rfl)
#print axioms PySem.Challenge.cw_sheetask_k04_lines_refused_holds

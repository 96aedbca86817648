import PyProof.Rows.All
import Wide.All
import OpenK.AllK
import Wide.FinOn
import Lean
import PyProof.EqAt
import PyProof.EqKinds
import PyProof.TupleCall
import KE.KIsAll
import KE.KRevIter
import PyProof.P3In
import PyProof.P3Eq
import KE.KDictList
import PySem.Challenge.RW_samebook_k01_things_in_things
set_option Elab.async false
set_option linter.all false
set_option maxRecDepth 100000
set_option Elab.async false
set_option linter.all false
set_option maxRecDepth 100000
/-! THE HAND LAYER, for ints, bools, texts, own classes, LISTS and tuples (index, slices, in, append, pop ..), calls, loops. Paste it whole ahead of your own text; what your proof does not reach may be deleted. -/
namespace L2
open PySem PySem.Spec PyProof.Rows

/-- a key: an int or a str -/
abbrev Key := Sum Int Str
def keyIs : Key → Value → Bool
  | .inl k, v => Value.isInt k v
  | .inr x, v => Value.isStrOf x v
def keyH (w : World) : Key → Int
  | .inl k => hashInt k
  | .inr x => hashStr w x
theorem keyIs_shape : ∀ {k : Key} {v : Value}, keyIs k v = true → (∃ i t, k = Sum.inl i ∧ v = Value.int i t) ∨ (∃ x t, k = Sum.inr x ∧ v = Value.str x t)
  | .inl i, v, h => by
    obtain ⟨t, e⟩ := Value.isInt_shape (k := i) (v := v) h
    exact .inl ⟨i, t, rfl, e⟩
  | .inr x, v, h => by
    obtain ⟨t, e⟩ := Value.isStrOf_shape (x := x) (v := v) h
    exact .inr ⟨x, t, rfl, e⟩
theorem keyIs_int (i : Int) (t : Tok) : keyIs (.inl i) (.int i t) = true := by simp [keyIs, Value.isInt]
theorem keyIs_str (x : Str) (t : Tok) : keyIs (.inr x) (.str x t) = true := by simp [keyIs, Value.isStrOf]
theorem key_ll (a b : Int) : decide ((Sum.inl a : Key) = Sum.inl b) = (a == b) := by
  by_cases e : a = b
  · subst e; simp
  · have h : ¬ (Sum.inl a : Key) = Sum.inl b := fun q => e (Sum.inl.inj q)
    rw [decide_eq_false h]
    exact (beq_eq_false_iff_ne.mpr e).symm
theorem key_rr (a b : Str) : decide ((Sum.inr a : Key) = Sum.inr b) = decide (a = b) := by
  by_cases e : a = b
  · subst e; simp
  · have h : ¬ (Sum.inr a : Key) = Sum.inr b := fun q => e (Sum.inr.inj q)
    rw [decide_eq_false h, decide_eq_false e]
theorem key_lr (a : Int) (b : Str) : decide ((Sum.inl a : Key) = Sum.inr b) = false := decide_eq_false (fun q => nomatch q)
theorem key_rl (a : Str) (b : Int) : decide ((Sum.inr a : Key) = Sum.inl b) = false := decide_eq_false (fun q => nomatch q)

def mixKind (prog : Program) (w : World) : PySem.KeyKind prog w Key where
  is := keyIs
  hash := keyH w
  inj := fun v a b ha hb => by
    rcases keyIs_shape ha with ⟨i, t, rfl, rfl⟩ | ⟨x, t, rfl, rfl⟩
    · rcases keyIs_shape hb with ⟨j, u, rfl, e⟩ | ⟨y, u, rfl, e⟩
      · injection e with e1 _; rw [e1]
      · exact nomatch e
    · rcases keyIs_shape hb with ⟨j, u, rfl, e⟩ | ⟨y, u, rfl, e⟩
      · exact nomatch e
      · injection e with e1 _; rw [e1]
  byValue := fun k v h => by
    rcases keyIs_shape h with ⟨i, t, rfl, rfl⟩ | ⟨x, t, rfl, rfl⟩ <;> rfl
  pyHash := fun hv h => by
    rcases keyIs_shape hv with ⟨i, t, rfl, rfl⟩ | ⟨x, t, rfl, rfl⟩
    · exact wpAny_pyHash_int h
    · exact wpAny_pyHash_str h
  eqBool := fun hu hv h => by
    rcases keyIs_shape hu with ⟨i, t, rfl, rfl⟩ | ⟨x, t, rfl, rfl⟩
    · rcases keyIs_shape hv with ⟨j, u, rfl, rfl⟩ | ⟨y, u, rfl, rfl⟩
      · rw [key_ll] at h; exact wpAny_eqBool_int h
      · rw [key_lr] at h; exact SeqAt.EqAt.int_str i t y u _ _ _ _ h
    · rcases keyIs_shape hv with ⟨j, u, rfl, rfl⟩ | ⟨y, u, rfl, rfl⟩
      · rw [key_rl] at h; exact SeqAt.EqAt.str_int x t j u _ _ _ _ h
      · rw [key_rr] at h; exact wpAny_eqBool_str h
  «strs» := fun k x t v h => by
    rcases keyIs_shape h with ⟨i, u, rfl, e⟩ | ⟨y, u, rfl, e⟩
    · exact nomatch e
    · injection e with e1 _
      subst e1
      cases v <;> rfl

theorem mixKind_is (prog : Program) (w : World) (k : Key) (v : Value) : (mixKind prog w).is k v = keyIs k v := rfl
theorem mixKind_int (prog : Program) (w : World) (i : Int) (t : Tok) : (mixKind prog w).is (.inl i) (.int i t) = true := keyIs_int i t
theorem mixKind_str (prog : Program) (w : World) (x : Str) (t : Tok) : (mixKind prog w).is (.inr x) (.str x t) = true := keyIs_str x t
end L2

namespace L2
open PySem PySem.Spec PyProof.Rows

/-- a value, without the heap -/
inductive V where
  | non | bl (b : Bool) | int (i : Int) | str (x : Str) | byt (b : Array UInt8) | flt (b : UInt64) | ref (a : Addr) | ty (n : String)
  deriving DecidableEq

def RelV : V → Value → Prop
  | .non, u => u = Value.none
  | .bl b, u => u = Value.bool b
  | .int i, u => ∃ t, u = Value.int i t
  | .str x, u => ∃ t, u = Value.str x t
  | .byt b, u => ∃ t, u = Value.bytes b t
  | .flt b, u => ∃ t, u = Value.float b t
  | .ref a, u => u = Value.ref a
  | .ty n, u => u = Value.type n

abbrev Vals : List V → List Value → Prop := Paired RelV
theorem Vals.length {xs : List V} {us : List Value} (r : Vals xs us) : xs.length = us.length := Paired.length r
theorem Vals.get : ∀ {xs : List V} {us : List Value} {i : Nat} {x : V}, Vals xs us → xs[i]? = some x → ∃ u, us[i]? = some u ∧ RelV x u
  | _, _, _, _, .nil, e => by simp at e
  | _, _, 0, _, .cons r _, e => by simp at e; subst e; exact ⟨_, rfl, r⟩
  | _, _, i + 1, x, .cons _ t, e => by
    obtain ⟨u, h1, h2⟩ := Vals.get (i := i) (x := x) t (by simpa using e)
    exact ⟨u, by simpa using h1, h2⟩
theorem Vals.set {x : V} {u : Value} (r : RelV x u) : ∀ {xs : List V} {us : List Value} (i : Nat), Vals xs us → Vals (xs.set i x) (us.set i u)
  | _, _, _, .nil => .nil
  | _, _, 0, .cons _ t => .cons r t
  | _, _, i + 1, .cons q t => .cons q (Vals.set r i t)
theorem Vals.append : ∀ {xs ys : List V} {us ws : List Value}, Vals xs us → Vals ys ws → Vals (xs ++ ys) (us ++ ws)
  | _, _, _, _, .nil, s => s
  | _, _, _, _, .cons r t, s => .cons r (Vals.append t s)
theorem Vals.take : ∀ {xs : List V} {us : List Value} (n : Nat), Vals xs us → Vals (xs.take n) (us.take n)
  | _, _, 0, _ => .nil
  | _, _, _ + 1, .nil => .nil
  | _, _, n + 1, .cons r t => .cons r (Vals.take n t)
theorem Vals.drop : ∀ {xs : List V} {us : List Value} (n : Nat), Vals xs us → Vals (xs.drop n) (us.drop n)
  | _, _, 0, r => r
  | _, _, _ + 1, .nil => .nil
  | _, _, n + 1, .cons _ t => Vals.drop n t
theorem Vals.none_of : ∀ {xs : List V} {us : List Value} {i : Nat}, Vals xs us → xs[i]? = none → us[i]? = none := fun {xs us i} r e => by
  have h1 := r.length
  have h2 : xs.length ≤ i := List.getElem?_eq_none_iff.mp e
  exact List.getElem?_eq_none_iff.mpr (by omega)

def RelO : Option V → Option Value → Prop
  | some v, some u => RelV v u
  | none, none => True
  | _, _ => False
def KV {κ : Type} : List (κ × V) → List (κ × Value) → Prop := Paired fun (p : κ × V) (q : κ × Value) => p.1 = q.1 ∧ RelV p.2 q.2

/-- a key of a dict (00_mix): an int or a text -/
def kV : Key → V
  | .inl i => .int i
  | .inr x => .str x

/-- what stands at a tracked address -/
inductive HO where
  /-- a list -/
  | lst (xs : List V)
  /-- a tuple (never changes) -/
  | tup (xs : List V)
  /-- a dict whose keys are ints and texts; one whose keys are tuples of ints and texts (the empty one is both) -/
  | dK (kvs : List (Key × V)) | dT (kvs : List (List Key × V))
  /-- a set of ints: its members, its size -/
  | set (S : Int → Bool) (n : Nat)
  /-- an instance of the class at C, its dict at dx, its attributes -/
  | ins (C dx : Addr) (fs : List (Str × V))
  /-- the dict of the instance at x -/
  | own (x : Addr)
  /-- the dict of an exception -/
  | xd (fs : List (Str × V))
  /-- a bound method, f of x -/
  | met (f x : Addr)
  /-- a range object lo, lo + 1, .. below hi -/
  | rng (lo hi : Int)
  /-- a thing that is known to the object (the script; a dict while a loop walks it): read, never written while it is so -/
  | frz (o : Obj) (u : HO)
  /-- a code object's table -/
  | tbl (ps : Array Value)
  /-- any other thing, by what is true of its one object (a def of one's own: SetO a S n := HO.ext fun h => ..) -/
  | ext (φ : Heap → Prop)

abbrev Hp := Addr → Option HO
def upd (H : Hp) (a : Addr) (o : HO) : Hp := fun b => if b = a then some o else H b
theorem upd_same {H : Hp} {a : Addr} {o : HO} : upd H a o a = some o := by unfold upd; rw [if_pos rfl]
theorem upd_ne {H : Hp} {a b : Addr} {o : HO} (h : b ≠ a) : upd H a o b = H b := by unfold upd; rw [if_neg h]
theorem upd_upd {H : Hp} {a : Addr} {o u : HO} : upd (upd H a o) a u = upd H a u := by
  funext b; unfold upd; split <;> rfl
/-- two objects of different content stand apart -/
theorem ne_of {H : Hp} {a b : Addr} {o u : HO} (h : H a = some o) (h' : H b = some u) (d : o ≠ u) : a ≠ b := by
  intro e; subst e; rw [h] at h'; exact d (Option.some.inj h')
theorem ne_of_none {H : Hp} {a b : Addr} {o : HO} (h : H a = some o) (h' : H b = none) : a ≠ b := by
  intro e; subst e; rw [h] at h'; cases h'

section
variable (P : Program) (w : World)
def ObjOk (H : Hp) (h : Heap) (a : Addr) : HO → Prop
  | .lst xs => xs.length ≤ sizeLine ∧ ∃ (its : List Value) (n : Nat), Vals xs its ∧ h.get? a = some { cls := .type "list", data := .seq its.toArray n }
  | .tup xs => xs.length ≤ sizeLine ∧ ∃ its : List Value, Vals xs its ∧ IsTup h a its.toArray
  | .dK kvs => kvs.length ≤ sizeLine ∧ (a == sysModules) = false ∧ ∃ vs, KV kvs vs ∧ h.DictOf (mixKind P w) a vs
  | .dT kvs => kvs.length ≤ sizeLine ∧ (a == sysModules) = false ∧ ∃ xs : List (List Key × Addr × Value),
      Paired (fun (p : List Key × V) (q : List Key × Addr × Value) => p.1 = q.1 ∧ H q.2.1 = some (.tup (p.1.map kV)) ∧ RelV p.2 q.2.2) kvs xs ∧
      ∃ o es ep, h.get? a = some o ∧ o.ExactDict ∧ o.data = .dict es ep ∧ es.toList = xs.map (entryOfKey (tupleKind (mixKind P w))) ∧ (xs.map (·.1)).Nodup
  | .set S n => h.SetOf (intKind P w) a S n
  | .ins C dx fs => H dx = some (.own a) ∧ fs.length ≤ 1000 ∧ dx ≠ a ∧ h.get? a = some (PySem.W.instObj C dx) ∧
      ∃ mA, h.Ns1 dx mA ∧ (∀ f, RelO (fs.lookup f) (mA f)) ∧ PySem.Within mA (fs.map (·.1))
  | .own _ => ∃ o, h.get? a = some o
  | .xd fs => ∃ mA, h.Ns1 a mA ∧ ∀ f, RelO (fs.lookup f) (mA f)
  | .rng lo hi => ∃ t u v, h.get? a = some { cls := .type "range", data := .fields #[.int lo t, .int hi u, .int 1 v] }
  | .frz o u => h.get? a = some o ∧ ObjOk H h a u
  | .tbl ps => h.get? a = some { cls := .none, data := .fields ps }
  | .met f x => h.get? a = some (PySem.W.methodObj (.ref f) (.ref x))
  | .ext φ => φ h ∧ (∃ o, h.get? a = some o) ∧ ∀ h1 h2 : Heap, φ h1 → (∀ o, h1.get? a = some o → h2.get? a = some o) → φ h2
/-- the abstract heap is held -/
def HOk (H : Hp) (h : Heap) : Prop := ∀ a o, H a = some o → ObjOk P w H h a o
end

section
variable {P : Program} {w : World} {H H' : Hp} {h h' : Heap} {a : Addr} {o : HO}
theorem ObjOk.lt (x : ObjOk P w H h a o) : a < h.objs.size := by
  cases o with
  | lst xs => obtain ⟨_, _, _, _, e⟩ := x; exact Heap.lt_size e
  | tup xs => obtain ⟨_, _, _, p⟩ := x; exact p.lt
  | dK kvs => obtain ⟨_, _, _, _, o, _, _, e, _⟩ := x; exact Heap.lt_size e
  | dT kvs => obtain ⟨_, _, _, _, o, _, _, e, _⟩ := x; exact Heap.lt_size e
  | set S n => obtain ⟨o, _, _, _, e, _⟩ := x; exact Heap.lt_size e
  | ins C dx fs => obtain ⟨_, _, _, e, _⟩ := x; exact Heap.lt_size e
  | own y => obtain ⟨_, e⟩ := x; exact Heap.lt_size e
  | xd fs => obtain ⟨_, ⟨_, _, _, e, _⟩, _⟩ := x; exact Heap.lt_size e
  | rng lo hi => obtain ⟨_, _, _, e⟩ := x; exact Heap.lt_size e
  | frz ob u => obtain ⟨e, _⟩ := x; exact Heap.lt_size e
  | tbl ps => exact Heap.lt_size (show h.get? a = some _ from x)
  | met f y => exact Heap.lt_size (show h.get? a = some _ from x)
  | ext φ => obtain ⟨_, ⟨_, e⟩, _⟩ := x; exact Heap.lt_size e
theorem Paired.mapP {α β : Type} {F G : α → β → Prop} : ∀ {l₁ : List α} {l₂ : List β}, Paired F l₁ l₂ → (∀ a b, F a b → G a b) → Paired G l₁ l₂
  | _, _, .nil, _ => .nil
  | _, _, .cons r t, f => .cons (f _ _ r) (Paired.mapP t f)
theorem Paired.imp' {α β : Type} {F G : α → β → Prop} (f : ∀ a b, F a b → G a b) {l₁ : List α} {l₂ : List β} (r : Paired F l₁ l₂) : Paired G l₁ l₂ := Paired.mapP r f
/-- what an object's description leans on: its own object, its own dict, the tuples -/
theorem ObjOk.stay (x : ObjOk P w H h a o) (k : ∀ b u, (b = a ∨ H b = some (.own a)) → h.get? b = some u → h'.get? b = some u)
    (ho : ∀ b, H b = some (.own a) → H' b = some (.own a)) (ht : ∀ b xs, H b = some (.tup xs) → H' b = some (.tup xs)) : ObjOk P w H' h' a o := by
  induction o with
  | lst xs => obtain ⟨z, its, n, r, e⟩ := x; exact ⟨z, its, n, r, k _ _ (.inl rfl) e⟩
  | tup xs => obtain ⟨z, its, r, ob, e, c⟩ := x; exact ⟨z, its, r, ob, k _ _ (.inl rfl) e, c⟩
  | dK kvs => obtain ⟨z, y, vs, r, ob, es, ep, e, c⟩ := x; exact ⟨z, y, vs, r, ob, es, ep, k _ _ (.inl rfl) e, c⟩
  | dT kvs =>
    obtain ⟨z, y, xs, r, ob, es, ep, e, c⟩ := x
    exact ⟨z, y, xs, Paired.mapP r fun p q z => ⟨z.1, ht _ _ z.2.1, z.2.2⟩, ob, es, ep, k _ _ (.inl rfl) e, c⟩
  | set S n => obtain ⟨ob, es, ep, t, e, c⟩ := x; exact ⟨ob, es, ep, t, k _ _ (.inl rfl) e, c⟩
  | ins C dx fs =>
    obtain ⟨d, z, ne, e, mA, ⟨od, es, ep, e2, c⟩, r⟩ := x
    exact ⟨ho _ d, z, ne, k _ _ (.inl rfl) e, mA, ⟨od, es, ep, k _ _ (.inr d) e2, c⟩, r⟩
  | own y => obtain ⟨ob, e⟩ := x; exact ⟨ob, k _ _ (.inl rfl) e⟩
  | xd fs => obtain ⟨mA, ⟨od, es, ep, e, c⟩, r⟩ := x; exact ⟨mA, ⟨od, es, ep, k _ _ (.inl rfl) e, c⟩, r⟩
  | rng lo hi => obtain ⟨t, u, v, e⟩ := x; exact ⟨t, u, v, k _ _ (.inl rfl) e⟩
  | frz ob u ih => obtain ⟨e, q⟩ := x; exact ⟨k _ _ (.inl rfl) e, ih q⟩
  | tbl ps =>
    have e : h.get? a = some { cls := .none, data := .fields ps } := x
    show h'.get? a = some { cls := .none, data := .fields ps }
    exact k a _ (.inl rfl) e
  | met f y =>
    have e : h.get? a = some (PySem.W.methodObj (.ref f) (.ref y)) := x
    show h'.get? a = some (PySem.W.methodObj (.ref f) (.ref y))
    exact k a _ (.inl rfl) e
  | ext φ => obtain ⟨p, ⟨o, e⟩, st⟩ := x; exact ⟨st _ _ p fun o q => k _ _ (.inl rfl) q, ⟨o, k _ _ (.inl rfl) e⟩, st⟩
theorem HOk.lt (x : HOk P w H h) (e : H a = some o) : a < h.objs.size := (x a o e).lt
theorem HOk.fresh (x : HOk P w H h) (e : h.objs.size ≤ a) : H a = none := by
  cases q : H a with
  | none => rfl
  | some u => exact absurd (Nat.lt_of_lt_of_le (x.lt q) e) (Nat.lt_irrefl _)
/-- every object of the heap is kept -/
theorem HOk.kept (x : HOk P w H h) (k : ∀ b u, h.get? b = some u → h'.get? b = some u) : HOk P w H h' := fun a o e =>
  (x a o e).stay (fun b u _ q => k b u q) (fun _ q => q) fun _ _ q => q
/-- a new object is laid and tracked -/
theorem HOk.laid (x : HOk P w H h) (k : ∀ b u, h.get? b = some u → h'.get? b = some u) (hp : h.objs.size ≤ a) (new : ObjOk P w (upd H a o) h' a o) : HOk P w (upd H a o) h' := fun b u e => by
  have hn := x.fresh hp
  by_cases hb : b = a
  · subst hb; rw [upd_same] at e; cases e; exact new
  · rw [upd_ne hb] at e
    exact (x b u e).stay (fun c v _ q => k c v q) (fun c q => by rw [upd_ne (ne_of_none q hn)]; exact q) fun c xs q => by rw [upd_ne (ne_of_none q hn)]; exact q
end

/-- what may be read as u: it is u, or a known u -/
def Rd (H : Hp) (a : Addr) (u : HO) : Prop := H a = some u ∨ ∃ o, H a = some (.frz o u)
theorem Rd.of {H : Hp} {a : Addr} {u : HO} (h : H a = some u) : Rd H a u := .inl h
theorem Rd.ok {P : Program} {w : World} {H : Hp} {h : Heap} {a : Addr} {u : HO} (r : Rd H a u) (x : HOk P w H h) : ObjOk P w H h a u := by
  rcases r with r | ⟨o, r⟩
  · exact x a u r
  · obtain ⟨_, q⟩ := x a _ r
    exact q
/-- what may be written -/
def Mut : Option HO → Prop
  | some (.lst _) => True
  | some (.dK _) => True
  | some (.dT _) => True
  | some (.set _ _) => True
  | some (.ins _ _ _) => True
  | some (.ext _) => True
  | _ => False
section
variable {P : Program} {w : World} {H : Hp} {h h' : Heap} {x e : Addr} {o' : HO}
/-- the object at e is changed: x itself, or the dict of the instance x -/
theorem HOk.write (ok : HOk P w H h) (mu : Mut (H x)) (he : e = x ∨ H e = some (.own x)) (k : ∀ b u, b ≠ e → h.get? b = some u → h'.get? b = some u) (heo : ∃ u, h'.get? e = some u)
    (new : ObjOk P w (upd H x o') h' x o') : HOk P w (upd H x o') h' := fun b u q => by
  have nown : ∀ c y, H c = some (.own y) → c ≠ x := fun c y r z => by subst z; rw [r] at mu; exact mu
  have ntup : ∀ c xs, H c = some (.tup xs) → c ≠ x := fun c xs r z => by subst z; rw [r] at mu; exact mu
  by_cases hb : b = x
  · subst hb; rw [upd_same] at q; cases q; exact new
  · rw [upd_ne hb] at q
    by_cases hbe : b = e
    · have q' : H b = some (.own x) := by
        rcases he with z | z
        · exact absurd (hbe.trans z) hb
        · rw [hbe]; exact z
      rw [q] at q'; cases q'
      obtain ⟨v, hv⟩ := heo
      exact ⟨v, by rw [hbe]; exact hv⟩
    · refine (ok b u q).stay (fun c v hc r => k c v ?_ r) (fun c r => by rw [upd_ne (nown c b r)]; exact r) fun c xs r => by rw [upd_ne (ntup c xs r)]; exact r
      rcases hc with rfl | hc
      · exact hbe
      · rintro rfl
        rcases he with z | z
        · exact nown c b hc z
        · rw [hc] at z; cases z; exact hb rfl
end

/-! ### kept unless tracked; of the frames at fs (the callers') the slots may change (an exception that passes writes there); of the records at ex (iterators) nothing is said -/
structure Un (fs ex : List Addr) (H H' : Hp) (h h' : Heap) : Prop where
  keep : ∀ b o, h.get? b = some o → H b = none → b ∉ fs → b ∉ ex → h'.get? b = some o
  slot : ∀ b o, h.get? b = some o → H b = none → b ∈ fs → b ∉ ex → ∃ sl, h'.get? b = some { o with slots := sl }
  free : ∀ b o, h.get? b = some o → H b = none → b ∉ ex → H' b = none
  there : ∀ b o, h.get? b = some o → b ∉ ex → ∃ o', h'.get? b = some o'
  tups : ∀ b xs, H b = some (.tup xs) → H' b = some (.tup xs)
  frzs : ∀ b o u, H b = some (.frz o u) → H' b = some (.frz o u)
  tbls : ∀ b ps, H b = some (.tbl ps) → ∃ more, H' b = some (.tbl (ps ++ more))
section
variable {fs fs' ex ex' : List Addr} {H H1 H2 : Hp} {h h1 h2 h' : Heap} {a x e : Addr} {o : HO}
theorem Un.any (u : Un fs ex H H1 h h1) {b : Addr} {ob : Obj} (q : h.get? b = some ob) (n : H b = none) (hx : b ∉ ex) : ∃ sl, h1.get? b = some { ob with slots := sl } := by
  by_cases hb : b ∈ fs
  · exact u.slot b ob q n hb hx
  · exact ⟨ob.slots, u.keep b ob q n hb hx⟩
theorem Un.trans (a : Un fs ex H H1 h h1) (b : Un fs ex H1 H2 h1 h2) : Un fs ex H H2 h h2 where
  keep := fun c ob q n hc hx => b.keep c ob (a.keep c ob q n hc hx) (a.free c ob q n hx) hc hx
  slot := fun c ob q n hc hx => by
    obtain ⟨sl, e1⟩ := a.slot c ob q n hc hx
    obtain ⟨sl', e2⟩ := b.slot c _ e1 (a.free c ob q n hx) hc hx
    exact ⟨sl', e2⟩
  free := fun c ob q n hx => by
    obtain ⟨o', e1⟩ := a.there c ob q hx
    exact b.free c o' e1 (a.free c ob q n hx) hx
  there := fun c ob q hx => by
    obtain ⟨o', e1⟩ := a.there c ob q hx
    exact b.there c o' e1 hx
  tups := fun c xs q => b.tups c xs (a.tups c xs q)
  frzs := fun c ob xs q => b.frzs c ob xs (a.frzs c ob xs q)
  tbls := fun c ps q => by
    obtain ⟨m1, e1⟩ := a.tbls c ps q
    obtain ⟨m2, e2⟩ := b.tbls c _ e1
    exact ⟨m1 ++ m2, by rw [e2, Array.append_assoc]⟩
theorem Un.kept (k : ∀ b u, h.get? b = some u → h'.get? b = some u) : Un fs ex H H h h' :=
  ⟨fun b ob q _ _ _ => k b ob q, fun b ob q _ _ _ => ⟨ob.slots, k b ob q⟩, fun _ _ _ n _ => n, fun b ob q _ => ⟨ob, k b ob q⟩, fun _ _ q => q, fun _ _ _ q => q, fun _ ps q => ⟨#[], by rw [q]; simp⟩⟩
theorem Un.refl : Un fs ex H H h h := Un.kept fun _ _ q => q
theorem Un.laid (k : ∀ b u, h.get? b = some u → h'.get? b = some u) (hp : h.objs.size ≤ a) (hn : H a = none) : Un fs ex H (upd H a o) h h' where
  keep := fun b u q _ _ _ => k b u q
  slot := fun b u q _ _ _ => ⟨u.slots, k b u q⟩
  free := fun b u q n _ => by rw [upd_ne (Nat.ne_of_lt (Nat.lt_of_lt_of_le (Heap.lt_size q) hp))]; exact n
  there := fun b u q _ => ⟨u, k b u q⟩
  tups := fun b xs q => by rw [upd_ne (ne_of_none q hn)]; exact q
  frzs := fun b u xs q => by rw [upd_ne (ne_of_none q hn)]; exact q
  tbls := fun b ps q => ⟨#[], by rw [upd_ne (ne_of_none q hn), q]; simp⟩
theorem Un.write (mu : Mut (H x)) (he : e = x ∨ H e = some (.own x)) (k : ∀ b u, b ≠ e → h.get? b = some u → h'.get? b = some u) (heo : ∃ u, h'.get? e = some u) : Un fs ex H (upd H x o) h h' := by
  have hx : ∀ b, H b = none → b ≠ x := fun b n z => by subst z; rw [n] at mu; exact mu
  have hb : ∀ b, H b = none → b ≠ e := fun b n z => by
    subst z
    rcases he with r | r
    · exact hx b n r
    · rw [n] at r; cases r
  have hm : ∀ b u, H b = some u → ¬ Mut (some u) → b ≠ x := fun b u q nm z => by subst z; rw [q] at mu; exact nm mu
  refine ⟨fun b u q n _ _ => k b u (hb b n) q, fun b u q n _ _ => ⟨u.slots, k b u (hb b n) q⟩, fun b u q n _ => by rw [upd_ne (hx b n)]; exact n, fun b u q _ => ?_,
    fun b xs q => by rw [upd_ne (hm b _ q fun z => z)]; exact q, fun b u xs q => by rw [upd_ne (hm b _ q fun z => z)]; exact q, fun b ps q => ⟨#[], by rw [upd_ne (hm b _ q fun z => z), q]; simp⟩⟩
  by_cases hbe : b = e
  · subst hbe; exact heo
  · exact ⟨u, k b u hbe q⟩
theorem Un.mono (u : Un fs ex H H1 h h1) (hs : ∀ b ∈ fs, b ∈ fs') (hx : ∀ b ∈ ex, b ∈ ex') : Un fs' ex' H H1 h h1 :=
  ⟨fun b ob q n hb he => u.keep b ob q n (fun z => hb (hs b z)) fun z => he (hx b z), fun _ _ q n _ he => u.any q n fun z => he (hx _ z), fun b ob q n he => u.free b ob q n fun z => he (hx b z), fun b ob q he => u.there b ob q fun z => he (hx b z), u.tups, u.frzs, u.tbls⟩
end

/-! ### the heap without what is tracked -/
def trk (h : Heap) (H : Hp) : List Addr := (List.range h.objs.size).filter fun a => (H a).isSome
def hidT (h : Heap) (H : Hp) : Heap := PySem.W.hideAll h (trk h H)
theorem hidT_size (h : Heap) (H : Hp) : (hidT h H).objs.size = h.objs.size := PySem.W.hideAll_size _ _
theorem hidT_get {h : Heap} {H : Hp} {b : Addr} {o : Obj} (e : h.get? b = some o) (n : H b = none) : (hidT h H).get? b = some o :=
  PySem.W.hideAll_get _ e fun hm => by
    have q : (H b).isSome = true := (List.mem_filter.mp hm).2
    rw [n] at q; simp at q
theorem of_hidT {h : Heap} {H : Hp} {b : Addr} {o : Obj} (e : (hidT h H).get? b = some o) : h.get? b = some o ∧ H b = none := by
  have e' : h.get? b = some o := PySem.W.of_hideAll (trk h H) e
  refine ⟨e', ?_⟩
  cases q : H b with
  | none => rfl
  | some x =>
    have hm : b ∈ trk h H := List.mem_filter.mpr ⟨List.mem_range.mpr (Heap.lt_size e'), by simp [q]⟩
    have z : (hidT h H).get? b = none := PySem.W.hideAll_none (trk h H) hm
    rw [z] at e; cases e

/-! ### OpenK's ledger, filled with every new object but one -/
def allNews (g h : Heap) (L : Addr) : List (Addr × Obj) := (List.range h.objs.size).filterMap fun a => if a = L ∨ (g.get? a).isSome = true then none else (h.get? a).map fun o => (a, o)
theorem mem_allNews {g h : Heap} {L a : Addr} {o : Obj} (h1 : a ≠ L) (h2 : g.get? a = none) (h3 : h.get? a = some o) : (a, o) ∈ allNews g h L :=
  List.mem_filterMap.mpr ⟨a, List.mem_range.mpr (Heap.lt_size h3), by simp [h1, h2, h3]⟩
theorem of_mem_allNews {g h : Heap} {L : Addr} {p : Addr × Obj} (hp : p ∈ allNews g h L) : p.1 ≠ L ∧ g.get? p.1 = none ∧ h.get? p.1 = some p.2 := by
  obtain ⟨b, _, e⟩ := List.mem_filterMap.mp hp
  split at e
  · cases e
  · rename_i hn
    cases q : h.get? b with
    | none => rw [q] at e; simp at e
    | some u =>
      rw [q] at e
      simp only [Option.map_some, Option.some.injEq] at e
      subst e
      refine ⟨fun z => hn (.inl z), ?_, q⟩
      show g.get? b = none
      cases r : g.get? b with
      | none => rfl
      | some v => exact (hn (.inr (by simp [r]))).elim
def rest (g h : Heap) (L d : Addr) : List (Addr × Obj) := (allNews g h L).filter fun p => decide (p.1 ≠ d)
theorem rest_ne {g h : Heap} {L d : Addr} : ∀ p ∈ rest g h L d, p.1 ≠ d := fun p hp => of_decide_eq_true (List.mem_filter.mp hp).2
theorem mem_rest {g h : Heap} {L d a : Addr} {o : Obj} (h1 : a ≠ L) (h2 : g.get? a = none) (h3 : h.get? a = some o) (h4 : a ≠ d) : (a, o) ∈ rest g h L d :=
  List.mem_filter.mpr ⟨mem_allNews h1 h2 h3, decide_eq_true h4⟩
theorem news_all {g h : Heap} {L : Addr} : News g L h (allNews g h L) := fun p hp => let ⟨a, b, c⟩ := of_mem_allNews hp; ⟨c, a, b⟩
theorem news_at {g h : Heap} {L d : Addr} {o : Obj} (h1 : d ≠ L) (h2 : g.get? d = none) (h3 : h.get? d = some o) : News g L h ((d, o) :: rest g h L d) := fun p hp => by
  rcases List.mem_cons.mp hp with rfl | hp
  · exact ⟨h3, h1, h2⟩
  · exact news_all p (List.mem_filter.mp hp).1
/-- behind a rule that changed d alone: all else but the frame is kept -/
theorem kept_of_news {g h h' : Heap} {L d : Addr} {m : Str → Option Value} (k : ∀ b o, g.get? b = some o → h.get? b = some o) (F : Fr g L h' m) (N : News g L h' (rest g h L d)) :
    ∀ b o, b ≠ L → b ≠ d → h.get? b = some o → h'.get? b = some o := fun b o h1 h2 e => by
  cases q : g.get? b with
  | some u =>
    have := k b u q
    rw [e] at this; cases this
    exact F.keep b _ q
  | none => exact (N (b, o) (mem_rest h1 q e h2)).1
end L2

namespace L2
open PySem PySem.Spec PyProof.Rows

/-- the module's facts, over the base: the heap at the law's entry without what is tracked there -/
structure Mod (K : PySem.W.Frag) (mg : Str → Option Value) (base : Heap) : Prop where
  kin : K.In base
  glob : base.Ns mainGlobals mg
  blt : ∃ mb, base.Ns builtinsNs mb ∧ ∀ x : Str, x ≠ "__name__" → mb x = bootBuiltins x
  nolimit : base.NoLimit

/-- the context: a def's body (or a comprehension's block) running. base: fixed through the whole law; s₀, H₀: the entry; outer: the frames whose slots others may change (a def's callers); stack: all frames that run;
   ex: iterators that were made ahead of the entry and are walked here (a comprehension's); fn: the names whose cells were made at the entry (a def: all; a comprehension's block: its own); calm: not within an except suite; pn: pins that every state bears; xe: what is wanted of an exception that leaves the code -/
structure Cx where
  prog : Program
  w : World
  K : PySem.W.Frag
  mg : Str → Option Value
  base : Heap
  A : Around
  N : List Str
  s₀ : Shared
  H₀ : Hp
  env : Env
  outer : List Env
  stack : List Env
  ex : List Addr
  fn : Str → Bool
  calm : Bool
  pn : List (Addr × Obj)
  xe : Value → Shared → Prop
/-- the callers' frames -/
def frs (l : List Env) : List Addr := l.filterMap (·.frame)
abbrev Cx.fs (X : Cx) : List Addr := frs X.outer

def Vis (sc : Scope) (x : Str) : Prop := sc.names.lookup x = some .local ∨ sc.names.lookup x = some .cell ∨ sc.names.lookup x = some .free
def Loc (sc : Scope) (x : Str) : Prop := sc.names.lookup x = some .local ∨ sc.names.lookup x = some .cell
def Look (env : Env) (h : Heap) (m : Str → Option Value) (x : Str) (u : Value) : Prop :=
  (env.kindOf x = some .local ∧ m x = some u) ∨ ((env.kindOf x = some .cell ∨ env.kindOf x = some .free) ∧ ∃ c, env.cells.lookup x = some c ∧ h.IsCell c (some u))

structure Cx.Ok (X : Cx) : Prop where
  mod : Mod X.K X.mg X.base
  kind : X.env.scope.kind = .function
  glob : X.env.globals = mainGlobals
  blt : X.env.builtins = builtinsNs
  above : X.s₀.heap.objs.size ≤ X.env.locals
  inj : ∀ x y c, X.env.cells.lookup x = some c → X.env.cells.lookup y = some c → x = y
  has : ∀ x, (X.env.kindOf x = some .cell ∨ X.env.kindOf x = some .free) → ∃ c, X.env.cells.lookup x = some c
  cab : ∀ x c, X.fn x = true → X.env.cells.lookup x = some c → X.s₀.heap.objs.size ≤ c
  hd : X.calm = true → X.A.handled = none
  frames : X.A.frames = some X.stack
  stk : X.stack = X.outer ∨ (X.stack = X.env :: X.outer ∧ X.env.frame = some X.env.locals)
  exf : ∀ b ∈ X.ex, b ≠ X.env.locals ∧ ∀ x c, X.env.cells.lookup x = some c → c ≠ b
  bs : ∀ b o, X.base.get? b = some o → X.s₀.heap.get? b = some o ∧ X.H₀ b = none
  bsz : X.base.objs.size ≤ X.s₀.heap.objs.size
  noex : ∀ b o, X.base.get? b = some o → b ∉ X.ex
  exfs : ∀ b ∈ X.ex, b ∉ X.fs
  funs : X.s₀.heap.FunFrames X.base X.outer
  frf : ∀ b ∈ X.fs, X.H₀ b = none

structure Inv (X : Cx) (pins : List (Addr × Obj)) (σ : List (Option V)) (H : Hp) (s : Shared) : Prop where
  ok : X.Ok
  os : s.os = X.s₀.os
  bare : AllBare s.gens
  base : Un X.fs X.ex X.H₀ H X.s₀.heap s.heap
  loc : ∃ m, s.heap.Ns X.env.locals m ∧ ∀ (i : Nat) (x : Str) (v : V), X.N[i]? = some x → σ[i]? = some (some v) → Vis X.env.scope x → ∃ u, RelV v u ∧ Look X.env s.heap m x u
  cell : ∀ x c, X.env.cells.lookup x = some c → ∃ v, s.heap.IsCell c v
  free : H X.env.locals = none
  freeC : ∀ x c, X.env.cells.lookup x = some c → H c = none
  pin : ∀ p ∈ X.pn ++ pins, s.heap.get? p.1 = some p.2 ∧ H p.1 = none ∧ p.1 ≠ X.env.locals ∧ p.1 ∉ X.fs ∧ ∀ v, p.2.data ≠ .cell v
  hok : HOk X.prog X.w H s.heap
  len : σ.length = X.N.length

section
variable {X : Cx} {pins : List (Addr × Obj)} {σ : List (Option V)} {H H' : Hp} {s : Shared} {h' : Heap}

theorem Cx.Ok.nofr (ok : X.Ok) {b : Addr} {o : Obj} (e : X.base.get? b = some o) : b ∉ X.fs := fun hb => by
  have := (ok.funs.mem hb).1
  rw [e] at this; cases this
theorem Inv.bs (I : Inv X pins σ H s) : ∀ b o, X.base.get? b = some o → s.heap.get? b = some o ∧ H b = none := fun b o e =>
  ⟨I.base.keep b o (I.ok.bs b o e).1 (I.ok.bs b o e).2 (I.ok.nofr e) (I.ok.noex b o e), I.base.free b o (I.ok.bs b o e).1 (I.ok.bs b o e).2 (I.ok.noex b o e)⟩
theorem Inv.bk (I : Inv X pins σ H s) : ∀ b o, X.base.get? b = some o → s.heap.get? b = some o := fun b o e => (I.bs b o e).1
theorem Inv.mod (I : Inv X pins σ H s) : Mod X.K X.mg X.base := I.ok.mod
theorem Inv.kIn (I : Inv X pins σ H s) : X.K.In s.heap := I.ok.mod.kin.keeps I.bk
theorem Inv.nolimit (I : Inv X pins σ H s) : s.heap.NoLimit := I.ok.mod.nolimit.keeps I.bk
/-- the frame over the base: for OpenK's rules (K.In X.base is I.mod.kin) -/
theorem Inv.fr (I : Inv X pins σ H s) : ∃ m, Fr X.base X.env.locals s.heap m :=
  let ⟨m, hn, _⟩ := I.loc
  ⟨m, hn, I.bk, Nat.le_trans I.ok.bsz I.ok.above⟩
theorem Inv.lt (I : Inv X pins σ H s) : X.env.locals < s.heap.objs.size := let ⟨_, hn, _⟩ := I.loc; hn.lt
theorem Inv.sz (I : Inv X pins σ H s) : X.s₀.heap.objs.size ≤ s.heap.objs.size := Nat.le_trans I.ok.above (Nat.le_of_lt I.lt)
theorem Inv.nofs (I : Inv X pins σ H s) {a : Addr} (h : s.heap.objs.size ≤ a) : a ∉ X.fs := fun hb => by
  obtain ⟨_, o, ho, _⟩ := I.ok.funs.mem hb
  exact absurd (Nat.lt_of_lt_of_le (Heap.lt_size ho) (Nat.le_trans I.sz h)) (Nat.lt_irrefl _)
theorem Inv.cne (I : Inv X pins σ H s) : ∀ x c, X.env.cells.lookup x = some c → c ≠ X.env.locals := fun x c e z => by
  obtain ⟨v, o, ho, hd⟩ := I.cell x c e
  obtain ⟨m, ⟨o', es, ep, ho', hd', _⟩, _⟩ := I.loc
  rw [z, ho'] at ho; cases ho; rw [hd'] at hd; cases hd
theorem Inv.funs (I : Inv X pins σ H s) : s.heap.FunFrames X.base X.outer := by
  have all : ∀ (l : List Env), (∀ b ∈ frs l, b ∈ X.fs) → X.s₀.heap.FunFrames X.base l → s.heap.FunFrames X.base l := by
    intro l
    induction l with
    | nil => intro _ _; trivial
    | cons env r ih =>
      intro hs hl
      obtain ⟨hk, ⟨L, o, hf, hn, ho, hd⟩, hr⟩ := hl
      have hL : L ∈ X.fs := hs L (by unfold frs; rw [List.filterMap_cons, hf]; exact List.mem_cons_self)
      obtain ⟨sl, e⟩ := I.base.slot L o ho (I.ok.frf L hL) hL fun z => I.ok.exfs L z hL
      exact ⟨hk, ⟨L, _, hf, hn, e, hd⟩, ih (fun b hb => hs b (by unfold frs; rw [List.filterMap_cons, hf]; exact List.mem_cons_of_mem _ hb)) hr⟩
  exact all X.outer (fun _ hb => hb) I.ok.funs

/-- the frames that run, for a call -/
theorem Inv.stack (I : Inv X pins σ H s) : s.heap.FunFrames X.base X.stack := by
  rcases I.ok.stk with e | ⟨e, hf⟩
  · rw [e]; exact I.funs
  · rw [e]
    obtain ⟨m, hn, _⟩ := I.loc
    refine .cons (by rw [I.ok.kind]; decide) hf hn ?_ I.funs
    exact Heap.get?_none_of_le (Nat.le_trans I.ok.bsz I.ok.above)
theorem Inv.stkSub (I : Inv X pins σ H s) : ∀ b ∈ frs X.stack, b ∈ X.env.locals :: X.fs := fun b hb => by
  rcases I.ok.stk with e | ⟨e, hf⟩
  · rw [e] at hb; exact List.mem_cons_of_mem _ hb
  · rw [e] at hb
    unfold frs at hb
    rw [List.filterMap_cons, hf] at hb
    exact hb
theorem Inv.stkFree (I : Inv X pins σ H s) : ∀ b ∈ frs X.stack, H b = none := fun b hb => by
  rcases List.mem_cons.mp (I.stkSub b hb) with e | hb
  · rw [e]; exact I.free
  · obtain ⟨_, o, ho, _⟩ := I.ok.funs.mem hb
    exact I.base.free b o ho (I.ok.frf b hb) fun z => I.ok.exfs b z hb

/-- THE STEP: the untracked objects but the frame and the records at ch are kept (the callers' frames up to slots), the frame's map is kept, the new abstract heap is held -/
theorem Inv.step {g' : Array GenState} {t' : Nat} {d' : Drawn} {ch : List Addr} (I : Inv X pins σ H s)
    (hch : ∀ b ∈ ch, (b ∈ X.ex ∨ X.s₀.heap.objs.size ≤ b) ∧ b ≠ X.env.locals ∧ (∀ x c, X.env.cells.lookup x = some c → c ≠ b) ∧ ∀ p ∈ X.pn ++ pins, p.1 ≠ b)
    (keep : ∀ b o, b ≠ X.env.locals → b ∉ X.fs → b ∉ ch → s.heap.get? b = some o → H b = none → h'.get? b = some o)
    (slot : ∀ b o, b ≠ X.env.locals → b ∈ X.fs → b ∉ ch → s.heap.get? b = some o → H b = none → ∃ sl, h'.get? b = some { o with slots := sl }) (free : ∀ b o, b ∉ ch → s.heap.get? b = some o → H b = none → H' b = none)
    (there : ∀ b o, b ∉ ch → s.heap.get? b = some o → ∃ o', h'.get? b = some o')
    (tups : ∀ b xs, H b = some (.tup xs) → H' b = some (.tup xs)) (frzs : ∀ b o u, H b = some (.frz o u) → H' b = some (.frz o u)) (tbls : ∀ b ps, H b = some (.tbl ps) → ∃ more, H' b = some (.tbl (ps ++ more)))
    (ns : ∀ m, s.heap.Ns X.env.locals m → h'.Ns X.env.locals m) (hok : HOk X.prog X.w H' h') (hg : AllBare g') :
    Inv X pins σ H' { s with heap := h', gens := g', drawn := d', toks := t' } := by
  have neL : ∀ b o, X.s₀.heap.get? b = some o → b ≠ X.env.locals := fun b o e => Nat.ne_of_lt (Nat.lt_of_lt_of_le (Heap.lt_size e) I.ok.above)
  have neC : ∀ b o, X.s₀.heap.get? b = some o → b ∉ X.ex → b ∉ ch := fun b o e hx hb => by
    rcases (hch b hb).1 with z | z
    · exact hx z
    · exact absurd (Nat.lt_of_lt_of_le (Heap.lt_size e) z) (Nat.lt_irrefl _)
  have cellK : ∀ x c, X.env.cells.lookup x = some c → ∀ v, s.heap.IsCell c v → h'.IsCell c v := fun x c e v ⟨o, ho, hd⟩ => by
    have nch : c ∉ ch := fun z => (hch c z).2.2.1 x c e rfl
    by_cases hc : c ∈ X.fs
    · obtain ⟨sl, q⟩ := slot c o (I.cne x c e) hc nch ho (I.freeC x c e)
      exact ⟨_, q, hd⟩
    · exact ⟨o, keep c o (I.cne x c e) hc nch ho (I.freeC x c e), hd⟩
  refine ⟨I.ok, I.os, hg, ⟨fun b o e n hb hx => ?_, fun b o e n hb hx => ?_, fun b o e n hx => ?_, fun b o e hx => ?_, fun b xs e => tups b xs (I.base.tups b xs e), fun b o xs e => frzs b o xs (I.base.frzs b o xs e), fun b ps e => ?_⟩, ?_, fun x c e => ?_, ?_, fun x c e => ?_, fun p hp => ?_, hok, I.len⟩
  · exact keep b o (neL b o e) hb (neC b o e hx) (I.base.keep b o e n hb hx) (I.base.free b o e n hx)
  · obtain ⟨sl, e1⟩ := I.base.slot b o e n hb hx
    obtain ⟨sl', e2⟩ := slot b _ (neL b o e) hb (neC b o e hx) e1 (I.base.free b o e n hx)
    exact ⟨sl', e2⟩
  · obtain ⟨o', e1⟩ := I.base.there b o e hx
    exact free b o' (neC b o e hx) e1 (I.base.free b o e n hx)
  · obtain ⟨o', e1⟩ := I.base.there b o e hx
    exact there b o' (neC b o e hx) e1
  · obtain ⟨m1, e1⟩ := I.base.tbls b ps e
    obtain ⟨m2, e2⟩ := tbls b _ e1
    exact ⟨m1 ++ m2, by rw [e2, Array.append_assoc]⟩
  · obtain ⟨m, hn, hl⟩ := I.loc
    refine ⟨m, ns m hn, fun i x v e1 e2 e3 => ?_⟩
    obtain ⟨u, r, l⟩ := hl i x v e1 e2 e3
    refine ⟨u, r, ?_⟩
    rcases l with l | ⟨k, c, e, z⟩
    · exact .inl l
    · exact .inr ⟨k, c, e, cellK x c e _ z⟩
  · obtain ⟨v, z⟩ := I.cell x c e
    exact ⟨v, cellK x c e v z⟩
  · obtain ⟨m, ⟨o, _, _, ho, _⟩, _⟩ := I.loc
    exact free _ o (fun z => (hch _ z).2.1 rfl) ho I.free
  · obtain ⟨v, o, ho, hd⟩ := I.cell x c e
    exact free c o (fun z => (hch c z).2.2.1 x c e rfl) ho (I.freeC x c e)
  · obtain ⟨e, n, ne, nf, d⟩ := I.pin p hp
    have nch : p.1 ∉ ch := fun z => (hch p.1 z).2.2.2 p hp rfl
    exact ⟨keep p.1 p.2 ne nf nch e n, free p.1 p.2 nch e n, ne, nf, d⟩
/-- .. where the frame's own object is kept too -/
theorem Inv.un {t' : Nat} (I : Inv X pins σ H s) (u : Un X.fs [] H H' s.heap h') (hok : HOk X.prog X.w H' h') : Inv X pins σ H' { s with heap := h', toks := t' } := by
  obtain ⟨m, ⟨o, es, ep, ho, r⟩, _⟩ := id I.loc
  obtain ⟨sl, hL⟩ := u.any ho I.free (by simp)
  exact I.step (g' := s.gens) (d' := s.drawn) (ch := []) (fun _ z => nomatch z) (fun b o _ hb _ e n => u.keep b o e n hb (by simp)) (fun b o _ hb _ e n => u.slot b o e n hb (by simp)) (fun b o _ e n => u.free b o e n (by simp)) (fun b o _ e => u.there b o e (by simp)) u.tups u.frzs u.tbls (fun m' hm => by
    obtain ⟨o', es', ep', ho', r'⟩ := hm
    rw [ho] at ho'; cases ho'
    exact ⟨_, es', ep', hL, r'⟩) hok I.bare
/-- behind a call (or a comprehension's block): the slots of this frame may have changed too, the records at ch may have turned -/
theorem Inv.call {g' : Array GenState} {t' : Nat} {d' : Drawn} {ch : List Addr} (I : Inv X pins σ H s) (u : Un (frs X.stack) ch H H' s.heap h') (hok : HOk X.prog X.w H' h') (hg : AllBare g')
    (hch : ∀ b ∈ ch, (b ∈ X.ex ∨ X.s₀.heap.objs.size ≤ b) ∧ b ≠ X.env.locals ∧ (∀ x c, X.env.cells.lookup x = some c → c ≠ b) ∧ ∀ p ∈ X.pn ++ pins, p.1 ≠ b) :
    Inv X pins σ H' { s with heap := h', gens := g', drawn := d', toks := t' } := by
  obtain ⟨m, ⟨o, es, ep, ho, r⟩, _⟩ := id I.loc
  obtain ⟨sl, hL⟩ := u.any ho I.free fun z => (hch _ z).2.1 rfl
  exact I.step (ch := ch) hch (fun b o hL hb hc e n => u.keep b o e n (fun z => (List.mem_cons.mp (I.stkSub b z)).elim hL hb) hc) (fun b o _ _ hc e n => u.any e n hc) (fun b o hc e n => u.free b o e n hc) (fun b o hc e => u.there b o e hc) u.tups u.frzs u.tbls (fun m' hm => by
    obtain ⟨o', es', ep', ho', r'⟩ := hm
    rw [ho] at ho'; cases ho'
    exact ⟨_, es', ep', hL, r'⟩) hok hg
/-- an untracked record of ours (an iterator) has turned -/
theorem Inv.turned {t' : Nat} {it : Addr} (I : Inv X pins σ H s) (k : ∀ b o, b ≠ it → s.heap.get? b = some o → h'.get? b = some o) (hn : H it = none) (hL : it ≠ X.env.locals)
    (h1 : it ∈ X.ex ∨ X.s₀.heap.objs.size ≤ it) (h2 : ∀ x c, X.env.cells.lookup x = some c → c ≠ it) (h3 : ∀ p ∈ X.pn ++ pins, p.1 ≠ it) : Inv X pins σ H { s with heap := h', toks := t' } := by
  have nit : ∀ b u, H b = some u → b ≠ it := fun b u e z => by rw [z, hn] at e; cases e
  refine I.step (g' := s.gens) (d' := s.drawn) (ch := [it]) (fun b hb => ?_) (fun b o _ _ hc e _ => k b o (fun z => hc (by simp [z])) e) (fun b o _ _ hc e _ => ⟨o.slots, k b o (fun z => hc (by simp [z])) e⟩) (fun _ _ _ _ n => n)
    (fun b o hc e => ⟨o, k b o (fun z => hc (by simp [z])) e⟩) (fun _ _ e => e) (fun _ _ _ e => e) (fun b ps e => ⟨#[], by rw [e]; simp⟩) (fun m hm => ?_) (fun b u e => ?_) I.bare
  · have e : b = it := by simpa using hb
    subst e
    exact ⟨h1, hL, h2, h3⟩
  · obtain ⟨o, es, ep, ho, r⟩ := hm
    exact ⟨o, es, ep, k _ o (Ne.symm hL) ho, r⟩
  · refine (I.hok b u e).stay (fun c v hc q => k c v ?_ q) (fun _ q => q) fun _ _ q => q
    rcases hc with z | z
    · rw [z]; exact nit b u e
    · exact nit c _ z
theorem Inv.tok (I : Inv X pins σ H s) (t : Nat) : Inv X pins σ H { s with toks := t } := I.un (h' := s.heap) (t' := t) Un.refl I.hok
/-- all objects kept -/
theorem Inv.kept {t' : Nat} (I : Inv X pins σ H s) (k : ∀ b u, s.heap.get? b = some u → h'.get? b = some u) : Inv X pins σ H { s with heap := h', toks := t' } := I.un (Un.kept k) (I.hok.kept k)
/-- a new object laid and tracked -/
theorem Inv.laid {a : Addr} {o : HO} {t' : Nat} (I : Inv X pins σ H s) (k : ∀ b u, s.heap.get? b = some u → h'.get? b = some u) (hp : s.heap.objs.size ≤ a) (new : ObjOk X.prog X.w (upd H a o) h' a o) :
    Inv X pins σ (upd H a o) { s with heap := h', toks := t' } := I.un (Un.laid k hp (I.hok.fresh hp)) (I.hok.laid k hp new)
/-- an object written -/
theorem Inv.write {x e : Addr} {o : HO} {t' : Nat} (I : Inv X pins σ H s) (mu : Mut (H x)) (he : e = x ∨ H e = some (.own x)) (k : ∀ b u, b ≠ e → s.heap.get? b = some u → h'.get? b = some u) (heo : ∃ u, h'.get? e = some u)
    (new : ObjOk X.prog X.w (upd H x o) h' x o) : Inv X pins σ (upd H x o) { s with heap := h', toks := t' } := I.un (Un.write mu he k heo) (I.hok.write mu he k heo new)
/-- forgetting slots, pins -/
theorem Inv.weak {σ' : List (Option V)} (I : Inv X pins σ H s) (hl : σ'.length = σ.length) (w : ∀ (i : Nat) v, σ'[i]? = some (some v) → σ[i]? = some (some v)) : Inv X pins σ' H s :=
  ⟨I.ok, I.os, I.bare, I.base, let ⟨m, hn, hl'⟩ := I.loc; ⟨m, hn, fun i x v e1 e2 e3 => hl' i x v e1 (w i v e2) e3⟩, I.cell, I.free, I.freeC, I.pin, I.hok, hl.trans I.len⟩
theorem Inv.pins_of {pins' : List (Addr × Obj)} (I : Inv X pins σ H s) (h : ∀ p ∈ pins', s.heap.get? p.1 = some p.2 ∧ H p.1 = none ∧ p.1 ≠ X.env.locals ∧ p.1 ∉ X.fs ∧ ∀ v, p.2.data ≠ .cell v) : Inv X pins' σ H s :=
  ⟨I.ok, I.os, I.bare, I.base, I.loc, I.cell, I.free, I.freeC, fun p hp => (List.mem_append.mp hp).elim (fun z => I.pin p (List.mem_append_left _ z)) (h p), I.hok, I.len⟩

theorem nodup_ix {N : List Str} (hN : N.Nodup) {i j : Nat} {x : Str} (a : N[i]? = some x) (b : N[j]? = some x) : i = j := by
  obtain ⟨h1, e1⟩ := List.getElem?_eq_some_iff.mp a
  obtain ⟨h2, e2⟩ := List.getElem?_eq_some_iff.mp b
  exact (List.getElem_inj hN).mp (e1.trans e2.symm)

/-- a name is stored; what changed -/
theorem store_ok2 {M : Model} {A : Around} {E : Value → Shared → Prop} {i : Nat} {x : Str} {v : V} {u : Value} {Q : Unit → Shared → Prop} (I : Inv X pins σ H s) (hN : X.N.Nodup) (hi : X.N[i]? = some x) (hx : Loc X.env.scope x) (r : RelV v u)
    (h : ∀ s', Inv X pins (σ.set i (some v)) H s' → (∃ a, Heap.SameBut a s.heap s'.heap ∧ (a = X.env.locals ∨ X.env.cells.lookup x = some a)) → Q () s') (hf : X.fn x = true ∨ X.env.scope.names.lookup x = some .local := by first | exact .inl rfl | exact .inr rfl | assumption) : wpAny M A (storeName X.env x u) Q E s := by
  obtain ⟨m, hn, hl⟩ := id I.loc
  have hcls : (X.env.scope.kind == .class || (X.env.scope.kind == .module && X.env.locals != X.env.globals)) = false := by rw [I.ok.kind]; rfl
  have hiσ : i < σ.length := by rw [I.len]; exact (List.getElem?_eq_some_iff.mp hi).1
  have cne := I.cne
  have tracked : ∀ {a : Addr} {h' : Heap}, (∃ o, s.heap.get? a = some o ∧ H a = none) → Heap.SameBut a s.heap h' → HOk X.prog X.w H h' := fun {a h'} ha hs b ob e => by
    obtain ⟨_, _, hfree⟩ := ha
    refine (I.hok b ob e).stay (fun c w' hc q => (hs.2 c ?_).trans q) (fun _ q => q) fun _ _ q => q
    rintro rfl
    rcases hc with rfl | hc
    · rw [hfree] at e; cases e
    · rw [hfree] at hc; cases hc
  rcases hx with hk | hk
  · refine wpAny_storeName_local hk hn (fun h' hn' hs => ?_) hcls
    obtain ⟨oL, _, _, hoL, _⟩ := id hn
    refine h _ ⟨I.ok, I.os, I.bare, ⟨fun b o e n hb hx => ?_, fun b o e n hb hx => ?_, I.base.free, fun b o e hx => ?_, I.base.tups, I.base.frzs, I.base.tbls⟩, ⟨_, hn', fun j y v' e1 e2 e3 => ?_⟩, fun y c e => ?_, I.free, I.freeC, fun p hp => ?_, tracked ⟨oL, hoL, I.free⟩ hs, by simpa using I.len⟩ ⟨_, hs, .inl rfl⟩
    · exact (hs.2 b (Nat.ne_of_lt (Nat.lt_of_lt_of_le (Heap.lt_size e) I.ok.above))).trans (I.base.keep b o e n hb hx)
    · obtain ⟨sl, e1⟩ := I.base.slot b o e n hb hx
      exact ⟨sl, (hs.2 b (Nat.ne_of_lt (Nat.lt_of_lt_of_le (Heap.lt_size e) I.ok.above))).trans e1⟩
    · obtain ⟨o', e1⟩ := I.base.there b o e hx
      exact ⟨o', (hs.2 b (Nat.ne_of_lt (Nat.lt_of_lt_of_le (Heap.lt_size e) I.ok.above))).trans e1⟩
    · by_cases hj : j = i
      · subst hj
        rw [hi] at e1; cases e1
        rw [List.getElem?_set_self hiσ] at e2
        cases e2
        exact ⟨u, r, .inl ⟨hk, by simp⟩⟩
      · rw [List.getElem?_set_ne (Ne.symm hj)] at e2
        obtain ⟨u', r', q⟩ := hl j y v' e1 e2 e3
        refine ⟨u', r', ?_⟩
        rcases q with ⟨k, e⟩ | ⟨k, c, e, z⟩
        · refine .inl ⟨k, ?_⟩
          have : y ≠ x := fun e => hj (nodup_ix hN e1 (e ▸ hi))
          simp [this, e]
        · exact .inr ⟨k, c, e, z.sameBut hs (cne y c e)⟩
    · obtain ⟨w', z⟩ := I.cell y c e
      exact ⟨w', z.sameBut hs (cne y c e)⟩
    · obtain ⟨e, n, ne, nf, d⟩ := I.pin p hp
      exact ⟨(hs.2 p.1 ne).trans e, n, ne, nf, d⟩
  · have hfn : X.fn x = true := by
      rcases hf with z | z
      · exact z
      · rw [z] at hk; cases hk
    obtain ⟨c, hc⟩ := I.ok.has x (.inl hk)
    obtain ⟨w', z⟩ := I.cell x c hc
    refine wpAny_storeName_cell I.ok.kind hk hc z (fun h' hc' hs => ?_)
    obtain ⟨oc, hoc, hocd⟩ := id z
    refine h { s with heap := h' } ⟨I.ok, I.os, I.bare, ⟨fun b o e n hb hx => ?_, fun b o e n hb hx => ?_, I.base.free, fun b o e hx => ?_, I.base.tups, I.base.frzs, I.base.tbls⟩, ⟨m, hn.sameBut hs (Ne.symm (cne x c hc)), fun j y v' e1 e2 e3 => ?_⟩, fun y c' e => ?_, I.free, I.freeC, fun p hp => ?_, tracked ⟨oc, hoc, I.freeC x c hc⟩ hs, by simpa using I.len⟩ ⟨c, hs, .inr hc⟩
    · exact (hs.2 b (Nat.ne_of_lt (Nat.lt_of_lt_of_le (Heap.lt_size e) (I.ok.cab x c hfn hc)))).trans (I.base.keep b o e n hb hx)
    · obtain ⟨sl, e1⟩ := I.base.slot b o e n hb hx
      exact ⟨sl, (hs.2 b (Nat.ne_of_lt (Nat.lt_of_lt_of_le (Heap.lt_size e) (I.ok.cab x c hfn hc)))).trans e1⟩
    · obtain ⟨o', e1⟩ := I.base.there b o e hx
      exact ⟨o', (hs.2 b (Nat.ne_of_lt (Nat.lt_of_lt_of_le (Heap.lt_size e) (I.ok.cab x c hfn hc)))).trans e1⟩
    · by_cases hj : j = i
      · subst hj
        rw [hi] at e1; cases e1
        rw [List.getElem?_set_self hiσ] at e2
        cases e2
        exact ⟨u, r, .inr ⟨.inl hk, c, hc, hc'⟩⟩
      · rw [List.getElem?_set_ne (Ne.symm hj)] at e2
        obtain ⟨u', r', q⟩ := hl j y v' e1 e2 e3
        refine ⟨u', r', ?_⟩
        rcases q with q | ⟨k, c', e, z'⟩
        · exact .inl q
        · refine .inr ⟨k, c', e, z'.sameBut hs ?_⟩
          rintro rfl
          exact hj (nodup_ix hN e1 (I.ok.inj _ _ _ e hc ▸ hi))
    · by_cases hcc : c' = c
      · subst hcc; exact ⟨_, hc'⟩
      · obtain ⟨w2, z2⟩ := I.cell y c' e
        exact ⟨w2, z2.sameBut hs hcc⟩
    · obtain ⟨e, n, ne, nf, d⟩ := I.pin p hp
      refine ⟨(hs.2 p.1 ?_).trans e, n, ne, nf, d⟩
      intro q
      rw [q, hoc] at e
      have q' : oc = p.2 := Option.some.inj e
      exact d w' (by rw [← q']; exact hocd)
theorem store_ok {M : Model} {A : Around} {E : Value → Shared → Prop} {i : Nat} {x : Str} {v : V} {u : Value} {Q : Unit → Shared → Prop} (I : Inv X pins σ H s) (hN : X.N.Nodup) (hi : X.N[i]? = some x) (hx : Loc X.env.scope x) (r : RelV v u)
    (h : ∀ s', Inv X pins (σ.set i (some v)) H s' → Q () s') (hf : X.fn x = true ∨ X.env.scope.names.lookup x = some .local := by first | exact .inl rfl | exact .inr rfl | assumption) : wpAny M A (storeName X.env x u) Q E s :=
  store_ok2 I hN hi hx r (fun s' I' _ => h s' I') hf
/-- behind a call or a block, the state as it is -/
theorem Inv.call' {s' : Shared} {ch : List Addr} (I : Inv X pins σ H s) (ho : s'.os = s.os) (u : Un (frs X.stack) ch H H' s.heap s'.heap) (hok : HOk X.prog X.w H' s'.heap) (hg : AllBare s'.gens)
    (hch : ∀ b ∈ ch, (b ∈ X.ex ∨ X.s₀.heap.objs.size ≤ b) ∧ b ≠ X.env.locals ∧ (∀ x c, X.env.cells.lookup x = some c → c ≠ b) ∧ ∀ p ∈ X.pn ++ pins, p.1 ≠ b) : Inv X pins σ H' s' := by
  obtain ⟨h', g', d', t', o'⟩ := s'
  have e : o' = s.os := ho
  subst e
  exact I.call (g' := g') (t' := t') (d' := d') u hok hg hch
end

/-! ### the judgements -/
/-- an exception: its class, its own dict's address (where it has one), the abstract heap behind it -/
abbrev XK := Value → Option Addr → Hp → Prop
abbrev St := List (Option V)
abbrev VK := V → Hp → Prop
/-- an expression's reading; a test's; an argument list's -/
abbrev TE := St → Hp → VK → Prop
abbrev TT := St → Hp → (Bool → Hp → Prop) → Prop
abbrev TA := St → Hp → (List V → Hp → Prop) → Prop
/-- what is wanted behind a statement -/
structure Ends where
  nx : St → Hp → Prop
  rt : VK
  bk : St → Hp → Prop := fun _ _ => False
  ct : St → Hp → Prop := fun _ _ => False
abbrev TS := Ends → St → Hp → Prop

def EP (X : Cx) (pins : List (Addr × Obj)) (σ : St) (Q : VK) (u : Value) (s' : Shared) : Prop := ∃ v H', Inv X pins σ H' s' ∧ RelV v u ∧ Q v H'
def TP (X : Cx) (pins : List (Addr × Obj)) (σ : St) (Q : Bool → Hp → Prop) (b : Bool) (s' : Shared) : Prop := ∃ H', Inv X pins σ H' s' ∧ Q b H'
def AP (X : Cx) (pins : List (Addr × Obj)) (σ : St) (Q : List V → Hp → Prop) (us : List Value) (s' : Shared) : Prop := ∃ vs H', Inv X pins σ H' s' ∧ Vals vs us ∧ Q vs H'
def SP (X : Cx) (pins : List (Addr × Obj)) (D : Ends) (f : Flow) (s' : Shared) : Prop :=
  match f with
  | .next => ∃ σ' H', Inv X pins σ' H' s' ∧ D.nx σ' H'
  | .brk => ∃ σ' H', Inv X pins σ' H' s' ∧ D.bk σ' H'
  | .cont => ∃ σ' H', Inv X pins σ' H' s' ∧ D.ct σ' H'
  | .ret u => ∃ v σ' H', Inv X pins σ' H' s' ∧ RelV v u ∧ D.rt v H'

def PE (X : Cx) (e : Expr) (t : TE) : Prop :=
  ∀ (pins : List (Addr × Obj)) (s : Shared) (σ : St) (H : Hp) (Q : VK), Inv X pins σ H s → t σ H Q → wpAny (model X.prog X.w) X.A (eval e X.env) (EP X pins σ Q) X.xe s
def PT (X : Cx) (e : Expr) (t : TT) : Prop :=
  ∀ (pins : List (Addr × Obj)) (s : Shared) (σ : St) (H : Hp) (Q : Bool → Hp → Prop), Inv X pins σ H s → t σ H Q → wpAny (model X.prog X.w) X.A (isTrue e X.env (eval e X.env)) (TP X pins σ Q) X.xe s
/-- a test whatever its 'whole' is (and, or) -/
def PW (X : Cx) (e : Expr) (t : TT) : Prop :=
  ∀ (whole : Sem Value) (pins : List (Addr × Obj)) (s : Shared) (σ : St) (H : Hp) (Q : Bool → Hp → Prop), Inv X pins σ H s → t σ H Q → wpAny (model X.prog X.w) X.A (isTrue e X.env whole) (TP X pins σ Q) X.xe s
theorem PW.pt {X : Cx} {e : Expr} {t : TT} (h : PW X e t) : PT X e t := h _
/-- an argument list (no star), from the left -/
def PA (X : Cx) (es : List Expr) (t : TA) : Prop :=
  ∀ (pos : Pos) (pins : List (Addr × Obj)) (s : Shared) (σ : St) (H : Hp) (Q : List V → Hp → Prop), Inv X pins σ H s → t σ H Q → wpAny (model X.prog X.w) X.A (spliced (backTo pos (starEach es X.env))) (AP X pins σ Q) X.xe s
def PS (X : Cx) (st : Stmt) (t : TS) : Prop :=
  ∀ (pins : List (Addr × Obj)) (s : Shared) (σ : St) (H : Hp) (D : Ends), Inv X pins σ H s → t D σ H → wpAny (model X.prog X.w) X.A (exec st X.env) (SP X pins D) X.xe s
def PSs (X : Cx) (st : List Stmt) (t : TS) : Prop :=
  ∀ (pins : List (Addr × Obj)) (s : Shared) (σ : St) (H : Hp) (D : Ends), Inv X pins σ H s → t D σ H → wpAny (model X.prog X.w) X.A (execs st X.env) (SP X pins D) X.xe s
/-- weaken the end -/
theorem thn {α : Type} {t : Sem α} {Q Q' : α → Shared → Prop} {M : Model} {A : Around} {E : Value → Shared → Prop} {s : Shared} (h : wpAny M A t Q E s) (hQ : ∀ a s, Q a s → Q' a s) : wpAny M A t Q' E s := wpAny_mono h hQ fun _ _ x => x
end L2

namespace L2
open PySem PySem.Spec PyProof.Rows
section
variable {X : Cx}

/-- two expressions in a row -/
theorem bin {a b : Expr} {ta tb : TE} (ha : PE X a ta) (hb : PE X b tb) {pins : List (Addr × Obj)} {s : Shared} {σ : St} {H : Hp} {R : V → V → Hp → Prop} (I : Inv X pins σ H s) (h : ta σ H fun x H1 => tb σ H1 fun y H2 => R x y H2)
    {α : Type} {Q : α → Shared → Prop} {f : Value → Value → Sem α}
    (hf : ∀ v u s2 x y H2, Inv X pins σ H2 s2 → RelV x v → RelV y u → R x y H2 → wpAny (model X.prog X.w) X.A (f v u) Q X.xe s2) :
    wpAny (model X.prog X.w) X.A (eval a X.env) (fun v s₁ => wpAny (model X.prog X.w) X.A (eval b X.env) (fun u s₂ => wpAny (model X.prog X.w) X.A (f v u) Q X.xe s₂) X.xe s₁) X.xe s := by
  refine thn (ha pins s σ H _ I h) fun v s1 ⟨x, H1, I1, r1, q1⟩ => ?_
  refine thn (hb pins s1 σ H1 _ I1 q1) fun u s2 ⟨y, H2, I2, r2, q2⟩ => ?_
  exact hf v u s2 x y H2 I2 r1 r2 q2

/-! ### names and constants -/
def tVar (i : Nat) : TE := fun σ H Q => ∃ v, σ[i]? = some (some v) ∧ Q v H
def tC (v : V) : TE := fun _ H Q => Q v H
theorem pe_var {i : Nat} {x : Str} {pos : Pos} (hN : X.N[i]? = some x) (hv : Vis X.env.scope x) (hd : (x == ("__debug__" : Str)) = false := by decide) (hcd : (x == ("__classdict__" : Str)) = false := by decide) : PE X (.Name x pos) (tVar i) := by
  intro pins s σ H Q I h
  obtain ⟨v, e, h⟩ := h
  obtain ⟨m, hn, hl⟩ := I.loc
  obtain ⟨u, r, l⟩ := hl i x v hN e hv
  have fin : EP X pins σ Q u s := ⟨v, H, I, r, h⟩
  rcases l with ⟨hk, hm⟩ | ⟨hk, c, hc, hcell⟩
  · exact wpAny_Name (wpAny_loadName_local I.ok.kind hk hn hm fin) hd
  · rcases hk with hk | hk
    · exact wpAny_Name (wpAny_loadName_cell I.ok.kind hk hc hcell fin) hd
    · exact wpAny_Name (wpAny_loadName_free I.ok.kind hk hc hcell fin hcd) hd
theorem pe_int {i j pos} : PE X (.Constant (.int i) j pos) (tC (.int i)) := fun _ _ _ H _ I h => wpAny_Constant_int ⟨.int i, H, I.tok _, ⟨_, rfl⟩, h⟩
theorem pe_bl {b j pos} : PE X (.Constant (.bool b) j pos) (tC (.bl b)) := fun _ _ _ H _ I h => Constant_bool ⟨.bl b, H, I, rfl, h⟩
theorem pe_non {j pos} : PE X (.Constant .none j pos) (tC .non) := fun _ _ _ H _ I h => Constant_none ⟨.non, H, I, rfl, h⟩
theorem pe_str {x j pos} : PE X (.Constant (.str x) j pos) (tC (.str x)) := fun _ _ _ H _ I h => Calls.Constant_str ⟨.str x, H, I.tok _, ⟨_, rfl⟩, h⟩

/-- a global name of the def -/
def Gl (X : Cx) (x : Str) : Prop := X.env.kindOf x = some .globalImplicit
theorem ld_glob {E : Value → Shared → Prop} {pins : List (Addr × Obj)} {s : Shared} {σ : St} {H : Hp} {x : Str} {u : Value} {pos : Pos} {Q : Value → Shared → Prop} (I : Inv X pins σ H s) (hg : Gl X x) (hm : X.mg x = some u) (h : Q u s)
    (hd : (x == ("__debug__" : Str)) = false := by decide) : wpAny (model X.prog X.w) X.A (eval (.Name x pos) X.env) Q E s :=
  Calls.Name_function_global I.ok.kind hg (Calls.loadGlobal_global (by rw [I.ok.glob]; exact I.mod.glob.keeps I.bk) hm h) hd
theorem ld_blt {E : Value → Shared → Prop} {pins : List (Addr × Obj)} {s : Shared} {σ : St} {H : Hp} {x : Str} {u : Value} {pos : Pos} {Q : Value → Shared → Prop} (I : Inv X pins σ H s) (hg : Gl X x) (hm : X.mg x = none) (hv : bootBuiltins x = some u) (h : Q u s)
    (hn : x ≠ "__name__" := by decide) (hd : (x == ("__debug__" : Str)) = false := by decide) : wpAny (model X.prog X.w) X.A (eval (.Name x pos) X.env) Q E s := by
  obtain ⟨mb, h1, h2⟩ := I.mod.blt
  exact Calls.Name_function_global I.ok.kind hg (Calls.loadGlobal_builtin (by rw [I.ok.glob]; exact I.mod.glob.keeps I.bk) hm (by rw [I.ok.blt]; exact h1.keeps I.bk) ((h2 x hn).trans hv) h) hd
/-- a module's constant, a class, a function, as a value -/
theorem pe_glob {x : Str} {v : V} {u : Value} {pos : Pos} (hg : Gl X x) (hm : X.mg x = some u) (r : RelV v u) (hd : (x == ("__debug__" : Str)) = false := by decide) : PE X (.Name x pos) (tC v) :=
  fun _ _ _ H _ I h => ld_glob I hg hm ⟨v, H, I, r, h⟩ hd
theorem pe_bltn {x : Str} {v : V} {u : Value} {pos : Pos} (hg : Gl X x) (hm : X.mg x = none) (hv : bootBuiltins x = some u) (r : RelV v u) (hn : x ≠ "__name__" := by decide) (hd : (x == ("__debug__" : Str)) = false := by decide) : PE X (.Name x pos) (tC v) :=
  fun _ _ _ H _ I h => ld_blt I hg hm hv ⟨v, H, I, r, h⟩ hn hd

/-! ### arithmetic -/
/-- two ints -/
def t2I (ta tb : TE) (k : Int → Int → Hp → Prop) : St → Hp → Prop := fun σ H => ta σ H fun x H1 => tb σ H1 fun y H2 => ∃ i j, x = .int i ∧ y = .int j ∧ k i j H2
def tAdd (ta tb : TE) : TE := fun σ H Q => t2I ta tb (fun i j H2 => Q (.int (i + j)) H2) σ H
def tSub (ta tb : TE) : TE := fun σ H Q => t2I ta tb (fun i j H2 => Q (.int (i - j)) H2) σ H
/-- the left factor below 2^64 -/
def tMul (ta tb : TE) : TE := fun σ H Q => t2I ta tb (fun i j H2 => (-(2 ^ 64) < i ∧ i < 2 ^ 64) ∧ Q (.int (i * j)) H2) σ H
variable {a b : Expr} {ta tb : TE} {pos : Pos}
theorem pe_add (ha : PE X a ta) (hb : PE X b tb) : PE X (.BinOp a .Add b pos) (tAdd ta tb) := by
  intro pins s σ H Q I h
  refine wpAny_BinOp (bin ha hb I h fun v u s2 x y H2 I2 rx ry q => ?_)
  obtain ⟨i, j, rfl, rfl, q⟩ := q
  obtain ⟨t, rfl⟩ := rx
  obtain ⟨t', rfl⟩ := ry
  exact add_int ⟨.int _, H2, I2.tok _, ⟨_, rfl⟩, q⟩
theorem pe_sub (ha : PE X a ta) (hb : PE X b tb) : PE X (.BinOp a .Sub b pos) (tSub ta tb) := by
  intro pins s σ H Q I h
  refine wpAny_BinOp (bin ha hb I h fun v u s2 x y H2 I2 rx ry q => ?_)
  obtain ⟨i, j, rfl, rfl, q⟩ := q
  obtain ⟨t, rfl⟩ := rx
  obtain ⟨t', rfl⟩ := ry
  exact sub_int ⟨.int _, H2, I2.tok _, ⟨_, rfl⟩, q⟩
theorem pe_mul (ha : PE X a ta) (hb : PE X b tb) : PE X (.BinOp a .Mult b pos) (tMul ta tb) := by
  intro pins s σ H Q I h
  refine wpAny_BinOp (bin ha hb I h fun v u s2 x y H2 I2 rx ry q => ?_)
  obtain ⟨i, j, rfl, rfl, ⟨q1, q2⟩, q⟩ := q
  obtain ⟨t, rfl⟩ := rx
  obtain ⟨t', rfl⟩ := ry
  exact mul_int ⟨.int _, H2, I2.tok _, ⟨_, rfl⟩, q⟩ (.of_left (intBits_le_64 q1 q2))

/-! ### comparisons -/
def PC (X : Cx) (op : CmpOp) (a b : Expr) (t : TE) : Prop :=
  ∀ (pins : List (Addr × Obj)) (s : Shared) (σ : St) (H : Hp) (Q : VK), Inv X pins σ H s → t σ H Q →
    wpAny (model X.prog X.w) X.A (eval a X.env) (fun v s₁ => wpAny (model X.prog X.w) X.A (eval b X.env) (fun u s₂ => wpAny (model X.prog X.w) X.A (compareOp op v u) (EP X pins σ Q) X.xe s₂) X.xe s₁) X.xe s
theorem nobehind (b : Expr) {op : CmpOp} (h : op ≠ .In) (h2 : op ≠ .NotIn) : behindInMarks op b = false := by
  have e1 : (op == CmpOp.In) = false := by cases op <;> first | rfl | exact absurd rfl h
  have e2 : (op == CmpOp.NotIn) = false := by cases op <;> first | rfl | exact absurd rfl h2
  cases b <;> simp [behindInMarks, e1, e2]
def tCmp (p : Int → Int → Bool) (ta tb : TE) : TE := fun σ H Q => t2I ta tb (fun i j H2 => Q (.bl (p i j)) H2) σ H
abbrev tLt : TE → TE → TE := tCmp fun i j => decide (i < j)
abbrev tLe : TE → TE → TE := tCmp fun i j => decide (i ≤ j)
abbrev tGt : TE → TE → TE := tCmp fun i j => decide (j < i)
abbrev tGe : TE → TE → TE := tCmp fun i j => decide (j ≤ i)
abbrev tEqI : TE → TE → TE := tCmp fun i j => decide (i = j)
abbrev tNeI : TE → TE → TE := tCmp fun i j => !decide (i = j)
/-- a comparison of two ints, by its rule -/
theorem pc_int {op : CmpOp} {p : Int → Int → Bool} (ha : PE X a ta) (hb : PE X b tb)
    (rule : ∀ (i j : Int) (t u : Tok) (Q : Value → Shared → Prop) (s : Shared), Q (.bool (p i j)) s → wpAny (model X.prog X.w) X.A (compareOp op (.int i t) (.int j u)) Q X.xe s) : PC X op a b (tCmp p ta tb) := by
  intro pins s σ H Q I h
  refine bin ha hb I h fun v u s2 x y H2 I2 rx ry q => ?_
  obtain ⟨i, j, rfl, rfl, q⟩ := q
  obtain ⟨t, rfl⟩ := rx
  obtain ⟨t', rfl⟩ := ry
  exact rule i j t t' _ s2 ⟨.bl _, H2, I2, rfl, q⟩
theorem pc_lt (ha : PE X a ta) (hb : PE X b tb) : PC X .Lt a b (tLt ta tb) := pc_int ha hb fun _ _ _ _ _ _ h => lt_int h
theorem pc_le (ha : PE X a ta) (hb : PE X b tb) : PC X .LtE a b (tLe ta tb) := pc_int ha hb fun _ _ _ _ _ _ h => le_int h
theorem pc_gt (ha : PE X a ta) (hb : PE X b tb) : PC X .Gt a b (tGt ta tb) := pc_int ha hb fun _ _ _ _ _ _ h => gt_int h
theorem pc_ge (ha : PE X a ta) (hb : PE X b tb) : PC X .GtE a b (tGe ta tb) := pc_int ha hb fun _ _ _ _ _ _ h => ge_int h
theorem pc_eqI (ha : PE X a ta) (hb : PE X b tb) : PC X .Eq a b (tEqI ta tb) := pc_int ha hb fun _ _ _ _ _ _ h => eq_int (by rw [Bool.beq_eq_decide_eq]; exact h)
theorem pc_neI (ha : PE X a ta) (hb : PE X b tb) : PC X .NotEq a b (tNeI ta tb) := pc_int ha hb fun _ _ _ _ _ _ h => ne_int (by rw [bne, Bool.beq_eq_decide_eq]; exact h)
/-- is None -/
def tIsN (ta : TE) : TE := fun σ H Q => ta σ H fun x H1 => Q (.bl (decide (x = .non))) H1
def tNotN (ta : TE) : TE := fun σ H Q => ta σ H fun x H1 => Q (.bl (!decide (x = .non))) H1
theorem RelV.none_iff {x : V} {v : Value} (r : RelV x v) : (v == Value.none) = decide (x = .non) := by
  cases x with
  | non => cases r; rfl
  | bl _ => cases r; rfl
  | int _ => obtain ⟨t, rfl⟩ := r; rfl
  | str _ => obtain ⟨t, rfl⟩ := r; rfl
  | byt _ => obtain ⟨t, rfl⟩ := r; rfl
  | flt _ => obtain ⟨t, rfl⟩ := r; rfl
  | ref _ => cases r; rfl
  | ty _ => cases r; rfl
theorem pc_isN {j pos'} (ha : PE X a ta) : PC X .Is a (.Constant .none j pos') (tIsN ta) := by
  intro pins s σ H Q I h
  refine thn (ha pins s σ H _ I h) fun v s1 ⟨x, H1, I1, r1, q1⟩ => ?_
  exact Constant_none (is_none_gen ⟨.bl _, H1, I1, by rw [r1.none_iff]; rfl, q1⟩)
theorem pc_notN {j pos'} (ha : PE X a ta) : PC X .IsNot a (.Constant .none j pos') (tNotN ta) := by
  intro pins s σ H Q I h
  refine thn (ha pins s σ H _ I h) fun v s1 ⟨x, H1, I1, r1, q1⟩ => ?_
  exact Constant_none (isnot_none_gen ⟨.bl _, H1, I1, by rw [r1.none_iff]; rfl, q1⟩)
/-- a comparison as a value, as a test -/
def tB (t : TE) : TT := fun σ H Q => t σ H fun x H1 => ∃ c, x = .bl c ∧ Q c H1
theorem pe_cmp {op : CmpOp} {t : TE} (h : PC X op a b t) (h1 : behindInMarks op b = false := by first | exact nobehind _ (by decide) (by decide) | rfl) : PE X (.Compare a [op] [b] pos) t := fun pins s σ H Q I hw => wpAny_Compare1 (h pins s σ H Q I hw) h1
theorem pt_cmp {op : CmpOp} {t : TE} (h : PC X op a b t) (h1 : behindInMarks op b = false := by first | exact nobehind _ (by decide) (by decide) | rfl) : PT X (.Compare a [op] [b] pos) (tB t) := by
  intro pins s σ H Q I hw
  refine wpAny_isTrue_Compare1 (thn (h pins s σ H _ I hw) fun v s1 h1 => thn h1 fun u s2 h2 => thn h2 fun c s3 ⟨x, H1, I1, r1, q1⟩ => ?_) h1
  obtain ⟨d, rfl, q⟩ := q1
  cases r1
  exact wpAny_truthy_bool ⟨H1, I1, q⟩
/-- an expression whose value is a bool, as a test -/
theorem pt_val {e : Expr} {t : TE} (h : PE X e t) (he : ∀ whole, isTrue e X.env whole = (do let v ← whole; standAt e.pos; holding [v] (truthy v)) := by intro _; rfl) : PT X e (tB t) := by
  intro pins s σ H Q I hw
  refine isTrue_plain (thn (h pins s σ H _ I hw) fun v s1 ⟨x, H1, I1, r1, q1⟩ => ?_) (he _)
  obtain ⟨d, rfl, q⟩ := q1
  cases r1
  exact wpAny_truthy_bool ⟨H1, I1, q⟩

/-! ### and, or, not -/
variable {tA tB' : TT} {rest : List Expr}
def tAnd (t u : TT) : TT := fun σ H Q => t σ H fun c H1 => if c = true then u σ H1 Q else Q false H1
def tOr (t u : TT) : TT := fun σ H Q => t σ H fun c H1 => if c = true then Q true H1 else u σ H1 Q
def tNot (t : TT) : TT := fun σ H Q => t σ H fun c H1 => Q (!c) H1
theorem pw_and1 (ha : PT X a tA) : PW X (.BoolOp .And [a] pos) tA := by
  intro wh pins s σ H Q I h
  refine isTrue_and (thn (ha pins s σ H Q I h) fun c s1 e => ?_)
  cases c with
  | true => exact isTrue_and_nil e
  | false => exact e
theorem pw_or1 (ha : PT X a tA) : PW X (.BoolOp .Or [a] pos) tA := by
  intro wh pins s σ H Q I h
  refine isTrue_or (thn (ha pins s σ H Q I h) fun c s1 e => ?_)
  cases c with
  | false => exact isTrue_or_nil e
  | true => exact e
theorem pw_and (ha : PT X a tA) (hb : PW X (.BoolOp .And (b :: rest) pos) tB') : PW X (.BoolOp .And (a :: b :: rest) pos) (tAnd tA tB') := by
  intro wh pins s σ H Q I h
  refine isTrue_and (thn (ha pins s σ H _ I h) fun c s1 ⟨H1, I1, q1⟩ => ?_)
  cases c with
  | true => exact hb wh pins s1 σ H1 Q I1 q1
  | false => exact ⟨H1, I1, q1⟩
theorem pw_or (ha : PT X a tA) (hb : PW X (.BoolOp .Or (b :: rest) pos) tB') : PW X (.BoolOp .Or (a :: b :: rest) pos) (tOr tA tB') := by
  intro wh pins s σ H Q I h
  refine isTrue_or (thn (ha pins s σ H _ I h) fun c s1 ⟨H1, I1, q1⟩ => ?_)
  cases c with
  | true => exact ⟨H1, I1, q1⟩
  | false => exact hb wh pins s1 σ H1 Q I1 q1
theorem pt_not (ha : PT X a tA) : PT X (.UnaryOp .Not a pos) (tNot tA) := by
  intro pins s σ H Q I h
  exact isTrue_not (ha pins s σ H (fun c H1 => Q (!c) H1) I h)
/-- .. as values (bools) -/
def tAndV (ta tb : TE) : TE := fun σ H Q => ta σ H fun x H1 => ∃ c, x = .bl c ∧ if c = true then tb σ H1 Q else Q (.bl false) H1
def tOrV (ta tb : TE) : TE := fun σ H Q => ta σ H fun x H1 => ∃ c, x = .bl c ∧ if c = true then Q (.bl true) H1 else tb σ H1 Q
def tNotV (ta : TE) : TE := fun σ H Q => ta σ H fun x H1 => ∃ c, x = .bl c ∧ Q (.bl (!c)) H1
theorem pe_one {op} {t : TE} (h : PE X a t) : PE X (.BoolOp op [a] pos) t := fun pins s σ H Q I hw => BoolOp_one (h pins s σ H Q I hw)
theorem pe_and (ha : PE X a ta) (hb : PE X (.BoolOp .And (b :: rest) pos) tb) : PE X (.BoolOp .And (a :: b :: rest) pos) (tAndV ta tb) := by
  intro pins s σ H Q I h
  refine BoolOp_and (thn (ha pins s σ H _ I h) fun v s1 ⟨x, H1, I1, r1, q1⟩ => ?_)
  obtain ⟨c, rfl, q1⟩ := q1
  cases r1
  refine wpAny_truthy_bool ?_
  cases c with
  | true => exact hb pins s1 σ H1 Q I1 q1
  | false => exact ⟨.bl false, H1, I1, rfl, q1⟩
theorem pe_or (ha : PE X a ta) (hb : PE X (.BoolOp .Or (b :: rest) pos) tb) : PE X (.BoolOp .Or (a :: b :: rest) pos) (tOrV ta tb) := by
  intro pins s σ H Q I h
  refine BoolOp_or (thn (ha pins s σ H _ I h) fun v s1 ⟨x, H1, I1, r1, q1⟩ => ?_)
  obtain ⟨c, rfl, q1⟩ := q1
  cases r1
  refine wpAny_truthy_bool ?_
  cases c with
  | false => exact hb pins s1 σ H1 Q I1 q1
  | true => exact ⟨.bl true, H1, I1, rfl, q1⟩
theorem pe_not (ha : PE X a ta) : PE X (.UnaryOp .Not a pos) (tNotV ta) := by
  intro pins s σ H Q I h
  refine UnaryOp_ (thn (ha pins s σ H _ I h) fun v s1 ⟨x, H1, I1, r1, q1⟩ => ?_)
  obtain ⟨c, rfl, q1⟩ := q1
  cases r1
  exact not_of (wpAny_truthy_bool ⟨.bl (!c), H1, I1, rfl, q1⟩)
/-- a if t else b -/
def tIf (t : TT) (ta tb : TE) : TE := fun σ H Q => t σ H fun c H1 => if c = true then ta σ H1 Q else tb σ H1 Q
theorem pe_ifExp {c : Expr} (hc : PT X c tA) (ha : PE X a ta) (hb : PE X b tb) : PE X (.IfExp c a b pos) (tIf tA ta tb) := by
  intro pins s σ H Q I h
  refine wpAny_IfExp (thn (hc pins s σ H _ I h) fun d s1 ⟨H1, I1, q1⟩ => ?_)
  cases d with
  | true => exact ha pins s1 σ H1 Q I1 q1
  | false => exact hb pins s1 σ H1 Q I1 q1
end
end L2

namespace L2
open PySem PySem.Spec PyProof.Rows

/-! ### a list, a tuple that is read: tracked, frozen, or an object of the module -/
def SqL (K : PySem.W.Frag) (H : Hp) (a : Addr) (xs : List V) : Prop :=
  Rd H a (.lst xs) ∨
    ∃ (o : Obj) (its : Array Value) (n : Nat), K.lookup a = some o ∧ o.cls = .type "list" ∧ o.dict = none ∧ o.data = .seq its n ∧ its.size ≤ sizeLine ∧ Vals xs its.toList
def SqT (K : PySem.W.Frag) (H : Hp) (a : Addr) (xs : List V) : Prop :=
  Rd H a (.tup xs) ∨
    ∃ (o : Obj) (its : Array Value) (n : Nat), K.lookup a = some o ∧ o.cls = .type "tuple" ∧ o.data = .seq its n ∧ its.size ≤ sizeLine ∧ Vals xs its.toList
def absV : Value → Option V
  | .none => some .non
  | .bool b => some (.bl b)
  | .int i _ => some (.int i)
  | .str x _ => some (.str x)
  | .bytes b _ => some (.byt b)
  | .float b _ => some (.flt b)
  | .ref a => some (.ref a)
  | .type n => some (.ty n)
  | _ => none
theorem RelV.abs {x : V} {u : Value} (r : RelV x u) : absV u = some x := by
  cases x with
  | non => cases r; rfl
  | bl _ => cases r; rfl
  | int _ => obtain ⟨t, rfl⟩ := r; rfl
  | str _ => obtain ⟨t, rfl⟩ := r; rfl
  | byt _ => obtain ⟨t, rfl⟩ := r; rfl
  | flt _ => obtain ⟨t, rfl⟩ := r; rfl
  | ref _ => cases r; rfl
  | ty _ => cases r; rfl
theorem RelV.inj {x y : V} {u : Value} (r : RelV x u) (q : RelV y u) : x = y := Option.some.inj (r.abs.symm.trans q.abs)
theorem Vals.inj : ∀ {xs ys : List V} {us : List Value}, Vals xs us → Vals ys us → xs = ys
  | _, _, _, .nil, .nil => rfl
  | _, _, _, .cons r t, .cons r' t' => by rw [r.inj r', Vals.inj t t']
section
variable {X : Cx} {pins : List (Addr × Obj)} {σ : St} {H : Hp} {s : Shared} {a : Addr} {xs ys : List V}
theorem SqL.of {K : PySem.W.Frag} (h : H a = some (.lst xs)) : SqL K H a xs := .inl (.inl h)
theorem SqT.of {K : PySem.W.Frag} (h : H a = some (.tup xs)) : SqT K H a xs := .inl (.inl h)
theorem Inv.list (I : Inv X pins σ H s) (h : SqL X.K H a xs) : ∃ its : List Value, Vals xs its ∧ PlainL s.heap a its.toArray ∧ xs.length ≤ sizeLine := by
  rcases h with h | ⟨o, its, n, hk, hc, hd, hs, hz, r⟩
  · obtain ⟨z, its, n, r, e⟩ := h.ok I.hok
    exact ⟨its, r, ⟨_, n, e, rfl, rfl, rfl⟩, z⟩
  · refine ⟨its.toList, r, ⟨o, n, I.kIn a o hk, hc, hd, by simpa using hs⟩, ?_⟩
    have e := r.length
    simp only [Array.length_toList] at e
    omega
theorem Inv.tuple (I : Inv X pins σ H s) (h : SqT X.K H a xs) : ∃ its : List Value, Vals xs its ∧ IsTup s.heap a its.toArray ∧ xs.length ≤ sizeLine := by
  rcases h with h | ⟨o, its, n, hk, hc, hs, hz, r⟩
  · obtain ⟨z, its, r, p⟩ := h.ok I.hok
    exact ⟨its, r, p, z⟩
  · refine ⟨its.toList, r, ⟨o, I.kIn a o hk, hc, n, by simpa using hs⟩, ?_⟩
    have e := r.length
    simp only [Array.length_toList] at e
    omega
theorem Inv.list_inj (I : Inv X pins σ H s) (h : SqL X.K H a xs) (h' : SqL X.K H a ys) : xs = ys := by
  obtain ⟨its, r, ⟨o, n, e, _, _, d⟩, _⟩ := I.list h
  obtain ⟨its', r', ⟨o', n', e', _, _, d'⟩, _⟩ := I.list h'
  rw [e] at e'; cases e'
  rw [d] at d'
  injection d' with d1 _
  have : its = its' := by simpa using congrArg Array.toList d1
  subst this
  exact r.inj r'
theorem Inv.tuple_inj (I : Inv X pins σ H s) (h : SqT X.K H a xs) (h' : SqT X.K H a ys) : xs = ys := by
  obtain ⟨its, r, ⟨o, e, _, n, d⟩, _⟩ := I.tuple h
  obtain ⟨its', r', ⟨o', e', _, n', d'⟩, _⟩ := I.tuple h'
  rw [e] at e'; cases e'
  rw [d] at d'
  injection d' with d1 _
  have : its = its' := by simpa using congrArg Array.toList d1
  subst this
  exact r.inj r'
end

/-! ### another wish about exceptions -/
abbrev Cx.wish (X : Cx) (E : Value → Shared → Prop) : Cx := { X with xe := E }
/-- no exception leaves -/
abbrev Cx.nox (X : Cx) : Cx := X.wish fun _ _ => False
theorem Cx.Ok.wish {X : Cx} (ok : X.Ok) (E : Value → Shared → Prop) : (X.wish E).Ok :=
  ⟨ok.mod, ok.kind, ok.glob, ok.blt, ok.above, ok.inj, ok.has, ok.cab, ok.hd, ok.frames, ok.stk, ok.exf, ok.bs, ok.bsz, ok.noex, ok.exfs, ok.funs, ok.frf⟩
theorem Cx.Ok.unwish {X : Cx} {E : Value → Shared → Prop} (ok : (X.wish E).Ok) : X.Ok :=
  ⟨ok.mod, ok.kind, ok.glob, ok.blt, ok.above, ok.inj, ok.has, ok.cab, ok.hd, ok.frames, ok.stk, ok.exf, ok.bs, ok.bsz, ok.noex, ok.exfs, ok.funs, ok.frf⟩
section
variable {X : Cx} {pins : List (Addr × Obj)} {σ : St} {H : Hp} {s : Shared} {E : Value → Shared → Prop}
theorem Inv.wish (I : Inv X pins σ H s) (E : Value → Shared → Prop) : Inv (X.wish E) pins σ H s := ⟨I.ok.wish E, I.os, I.bare, I.base, I.loc, I.cell, I.free, I.freeC, I.pin, I.hok, I.len⟩
theorem Inv.unwish (I : Inv (X.wish E) pins σ H s) : Inv X pins σ H s := ⟨I.ok.unwish, I.os, I.bare, I.base, I.loc, I.cell, I.free, I.freeC, I.pin, I.hok, I.len⟩
theorem SP.unwish {D : Ends} {f : Flow} {s' : Shared} (h : SP (X.wish E) pins D f s') : SP X pins D f s' := by
  cases f with
  | next => obtain ⟨σ', H', I, q⟩ := h; exact ⟨σ', H', I.unwish, q⟩
  | brk => obtain ⟨σ', H', I, q⟩ := h; exact ⟨σ', H', I.unwish, q⟩
  | cont => obtain ⟨σ', H', I, q⟩ := h; exact ⟨σ', H', I.unwish, q⟩
  | ret u => obtain ⟨v, σ', H', I, r, q⟩ := h; exact ⟨v, σ', H', I.unwish, r, q⟩
theorem PE.nox {e : Expr} {t : TE} (h : PE X.nox e t) : PE X e t := fun pins s σ H Q I hw =>
  wpAny_mono (h pins s σ H Q (I.wish _) hw) (fun _ _ ⟨v, H', I', r, q⟩ => ⟨v, H', I'.unwish, r, q⟩) fun _ _ z => False.elim z
theorem PT.nox {e : Expr} {t : TT} (h : PT X.nox e t) : PT X e t := fun pins s σ H Q I hw =>
  wpAny_mono (h pins s σ H Q (I.wish _) hw) (fun _ _ ⟨H', I', q⟩ => ⟨H', I'.unwish, q⟩) fun _ _ z => False.elim z
theorem PSs.nox {st : List Stmt} {t : TS} (h : PSs X.nox st t) : PSs X st t := fun pins s σ H D I hw =>
  wpAny_mono (h pins s σ H D (I.wish _) hw) (fun _ _ q => q.unwish) fun _ _ z => False.elim z
end

/-! ### blocks and small statements -/
section
variable {X : Cx} {st : Stmt} {rest : List Stmt} {t u : TS} {e : Expr} {te : TE} {pos : Pos}
def tNext : TS := fun D σ H => D.nx σ H
def tSeq (t u : TS) : TS := fun D σ H => t { D with nx := u D } σ H
theorem pss_nil : PSs X [] tNext := fun _ _ σ H _ I h => wpAny_execs_nil ⟨σ, H, I, h⟩
theorem pss_cons (h1 : PS X st t) (h2 : PSs X rest u) : PSs X (st :: rest) (tSeq t u) := by
  intro pins s σ H D I h
  refine wpAny_execs_cons (thn (h1 pins s σ H { D with nx := u D } I h) fun f s1 q => ?_)
  cases f with
  | next =>
    obtain ⟨σ', H', I', q⟩ := q
    exact h2 pins s1 σ' H' D I' q
  | ret v => exact q
  | brk => exact q
  | cont => exact q
theorem pss_one (h1 : PS X st t) : PSs X [st] t := by
  intro pins s σ H D I h
  refine wpAny_execs_cons (thn (h1 pins s σ H D I h) fun f s1 q => ?_)
  cases f with
  | next => exact wpAny_execs_nil q
  | ret v => exact q
  | brk => exact q
  | cont => exact q
def tBreak : TS := fun D σ H => D.bk σ H
def tCont : TS := fun D σ H => D.ct σ H
theorem ps_pass : PS X (.Pass pos) tNext := fun _ _ σ H _ I h => wpAny_Pass ⟨σ, H, I, h⟩
theorem ps_break : PS X (.Break pos) tBreak := fun _ _ σ H _ I h => wpAny_Break ⟨σ, H, I, h⟩
theorem ps_continue : PS X (.Continue pos) tCont := fun _ _ σ H _ I h => wpAny_Continue ⟨σ, H, I, h⟩
/-- in a def's body nothing is shown -/
theorem Inv.quiet {pins : List (Addr × Obj)} {σ : St} {H : Hp} {s : Shared} (I : Inv X pins σ H s) : interactive X.env = false := by simp [interactive, I.ok.kind]
/-- a docstring -/
theorem ps_doc {x j pos pos'} : PS X (.Expr (.Constant (.str x) j pos) pos') tNext := fun _ s σ H _ I h => wpAny_Expr (Calls.Constant_str (show SP X _ _ .next { s with toks := s.toks + 1 } from ⟨σ, H, I.tok _, h⟩)) I.quiet
/-- an expression whose value is dropped -/
def tDrop (te : TE) : TS := fun D σ H => te σ H fun _ H1 => D.nx σ H1
theorem ps_expr (he : PE X e te) (hs : swapsWith e none pos.line X.env = pure false := by rfl) : PS X (.Expr e pos) (tDrop te) := by
  intro pins s σ H D I h
  exact wpAny_Expr_any (thn (he pins s σ H _ I h) fun v s1 ⟨x, H1, I1, r1, q1⟩ => ⟨σ, H1, I1, q1⟩) I.quiet hs
def tRet (te : TE) : TS := fun D σ H => te σ H D.rt
theorem ps_ret (he : PE X e te) : PS X (.Return (some e) pos) (tRet te) := by
  intro pins s σ H D I h
  exact wpAny_Return_some (thn (he pins s σ H _ I h) fun v s1 ⟨x, H1, I1, r1, q1⟩ => ⟨x, σ, H1, I1, r1, q1⟩)
def tRetN : TS := fun D _ H => D.rt .non H
theorem ps_retN : PS X (.Return none pos) tRetN := fun _ _ σ H _ I h => wpAny_Return_none ⟨.non, σ, H, I, rfl, h⟩
def tIfS (c : TT) (t u : TS) : TS := fun D σ H => c σ H fun b H1 => if b = true then t D σ H1 else u D σ H1
theorem ps_if {c : Expr} {a b : List Stmt} {tc : TT} (hc : PT X c tc) (ha : PSs X a t) (hb : PSs X b u) : PS X (.If c a b pos) (tIfS tc t u) := by
  intro pins s σ H D I h
  refine wpAny_If (thn (hc pins s σ H _ I h) fun d s1 ⟨H1, I1, q1⟩ => ?_)
  cases d with
  | true => exact ha pins s1 σ H1 D I1 q1
  | false => exact hb pins s1 σ H1 D I1 q1
/-- code that the proof never comes to -/
def tNever : TS := fun _ _ _ => False
theorem ps_never : PS X st tNever := fun _ _ _ _ _ _ h => h.elim
theorem pss_never {sts : List Stmt} : PSs X sts tNever := fun _ _ _ _ _ _ h => h.elim
end

/-! ### targets -/
abbrev TG := V → St → Hp → (St → Hp → Prop) → Prop
abbrev TGs := List V → St → Hp → (St → Hp → Prop) → Prop
def PG (X : Cx) (target : Expr) (t : TG) : Prop :=
  ∀ (pins : List (Addr × Obj)) (s : Shared) (σ : St) (H : Hp) (v : V) (u : Value) (Q : St → Hp → Prop), Inv X pins σ H s → RelV v u → t v σ H Q →
    wpAny (model X.prog X.w) X.A (assign target X.env u) (fun _ s' => ∃ σ' H', Inv X pins σ' H' s' ∧ Q σ' H') X.xe s
/-- several targets, one after another -/
def PGs (X : Cx) (ts : List Expr) (t : TGs) : Prop :=
  ∀ (pins : List (Addr × Obj)) (s : Shared) (σ : St) (H : Hp) (vs : List V) (us : List Value) (Q : St → Hp → Prop), Inv X pins σ H s → Vals vs us → t vs σ H Q →
    wpAny (model X.prog X.w) X.A (assignInOrder ((assignEach ts X.env).map (·.2)) us) (fun _ s' => ∃ σ' H', Inv X pins σ' H' s' ∧ Q σ' H') X.xe s
/-- o[i] = v, by values -/
abbrev TSet := V → V → V → Hp → (Hp → Prop) → Prop
def PSet (X : Cx) (t : TSet) : Prop :=
  ∀ (pins : List (Addr × Obj)) (s : Shared) (σ : St) (H : Hp) (o i v : V) (ov iv u : Value) (Q : Hp → Prop), Inv X pins σ H s → RelV o ov → RelV i iv → RelV v u → t o i v H Q →
    wpAny (model X.prog X.w) X.A (setItem ov iv u) (fun _ s' => ∃ H', Inv X pins σ H' s' ∧ Q H') X.xe s
/-- a op= b, by values -/
abbrev TIp := V → V → Hp → VK → Prop
def PIp (X : Cx) (op : Operator) (t : TIp) : Prop :=
  ∀ (pins : List (Addr × Obj)) (s : Shared) (σ : St) (H : Hp) (x y : V) (v u : Value) (Q : VK), Inv X pins σ H s → RelV x v → RelV y u → t x y H Q →
    wpAny (model X.prog X.w) X.A (inplaceOp op v u) (EP X pins σ Q) X.xe s
section
variable {X : Cx} {pos : Pos}
def gName (i : Nat) : TG := fun v σ H Q => Q (σ.set i (some v)) H
theorem pg_name {i : Nat} {x : Str} (hN : X.N.Nodup) (hi : X.N[i]? = some x) (hx : Loc X.env.scope x) (hf : X.fn x = true ∨ X.env.scope.names.lookup x = some .local := by first | exact .inl rfl | exact .inr rfl | assumption) : PG X (.Name x pos) (gName i) := by
  intro pins s σ H v u Q I r h
  exact wpAny_assign_Name (store_ok I hN hi hx r (fun s' I' => ⟨_, H, I', h⟩) hf)
def gNil : TGs := fun vs σ H Q => vs = [] ∧ Q σ H
def gCons (t : TG) (u : TGs) : TGs := fun vs σ H Q => ∃ v r, vs = v :: r ∧ t v σ H fun σ' H' => u r σ' H' Q
theorem pgs_nil : PGs X [] gNil := by
  intro pins s σ H vs us Q I r h
  obtain ⟨e, h⟩ := h
  subst e
  cases r
  exact assignInOrder_nil ⟨σ, H, I, h⟩
theorem pgs_cons {e : Expr} {es : List Expr} {t : TG} {u : TGs} (h1 : PG X e t) (h2 : PGs X es u)
    (hs : (assignEach (e :: es) X.env).map (·.2) = assign e X.env :: (assignEach es X.env).map (·.2) := by rfl) : PGs X (e :: es) (gCons t u) := by
  intro pins s σ H vs us Q I r h
  obtain ⟨v, vr, e1, h⟩ := h
  subst e1
  cases r with
  | cons r rr =>
    rw [hs]
    refine assignInOrder_cons (thn (h1 pins s σ H _ _ _ I r h) fun _ s1 ⟨σ1, H1, I1, q1⟩ => ?_)
    exact h2 pins s1 σ1 H1 _ _ Q I1 rr q1
/-- (a, b, ..) = a tuple of that length -/
def gTup (K : PySem.W.Frag) (n : Nat) (t : TGs) : TG := fun v σ H Q => ∃ a xs, v = .ref a ∧ SqT K H a xs ∧ xs.length = n ∧ t xs σ H Q
theorem pg_tup {es : List Expr} {k : Nat} {t : TGs} {n : Nat} (hc : X.calm = true) (h : PGs X es t)
    (hn : (assignEach es X.env).length = n := by rfl) (hst : (assignEach es X.env).findIdx? (·.1) = none := by rfl) : PG X (.Tuple es k pos) (gTup X.K n t) := by
  intro pins s σ H v u Q I r hw
  obtain ⟨a, xs, e1, hq, hl, hw⟩ := hw
  subst e1
  cases r
  obtain ⟨its, rv, ht, hz⟩ := I.tuple hq
  refine assign_Tuple_tuple (I.ok.hd hc) ht (by simp [hn, ← hl, rv.length]) hst fun h' hx => ?_
  have I1 : Inv X pins σ H { s with heap := h' } := I.kept (t' := s.toks) fun b o e => hx b o (Nat.ne_of_lt (Heap.lt_size e)) e
  exact h pins _ σ H xs _ Q I1 (by simpa using rv) hw
/-- o[i] = .. -/
def gSub (to ti : TE) (t : TSet) : TG := fun v σ H Q => to σ H fun o H1 => ti σ H1 fun i H2 => t o i v H2 fun H3 => Q σ H3
theorem pg_sub {o i : Expr} {to ti : TE} {t : TSet} (ho : PE X o to) (hi : PE X i ti) (hs : PSet X t)
    (ha : ∀ v, assign (.Subscript o i pos) X.env v = (do
      let ov ← holding [v] (eval o X.env)
      let iv ← holding [v, ov] (eval i X.env)
      standAt pos
      holding [v, ov, iv] (setItem ov iv v)
      release [v, ov, iv] []) := by intro _; rfl) : PG X (.Subscript o i pos) (gSub to ti t) := by
  intro pins s σ H v u Q I r h
  rw [ha]
  refine wpAny_bind (wpAny_holding (thn (ho pins s σ H _ I h) fun ov s1 ⟨x, H1, I1, r1, q1⟩ => ?_))
  refine wpAny_bind (wpAny_holding (thn (hi pins s1 σ H1 _ I1 q1) fun iv s2 ⟨y, H2, I2, r2, q2⟩ => ?_))
  refine wpAny_bind (wpAny_standAt (wpAny_bind (wpAny_holding (thn (hs pins s2 σ H2 x y v ov iv u _ I2 r1 r2 r q2) fun _ s3 ⟨H3, I3, q3⟩ => ?_))))
  exact wpAny_release ⟨σ, H3, I3, q3⟩
/-- target = value -/
def tAsg (te : TE) (g : TG) : TS := fun D σ H => te σ H fun x H1 => g x σ H1 D.nx
theorem ps_asg {tg e : Expr} {te : TE} {g : TG} (he : PE X e te) (hg : PG X tg g) (hs : swapsWithSole [tg] e pos.line X.env = pure false := by rfl) (hw : swappedStores [tg] e X.env = pure none := by rfl)
    (h1 : (assignEach [tg] X.env).map (·.2) = [assign tg X.env] := by rfl) : PS X (.Assign [tg] e pos) (tAsg te g) := by
  intro pins s σ H D I h
  refine wpAny_Assign_stores (thn (he pins s σ H _ I h) fun v s1 ⟨x, H1, I1, r1, q1⟩ => ?_) hs hw
  rw [h1]
  exact thn (hg pins s1 σ H1 x v _ I1 r1 q1) fun _ s2 q => q
/-- name = value -/
theorem ps_set {i : Nat} {x : Str} {e : Expr} {te : TE} {pos' : Pos} (hN : X.N.Nodup) (hi : X.N[i]? = some x) (hx : Loc X.env.scope x) (he : PE X e te) (hs : swapsWith e (some (.Name x pos')) pos.line X.env = pure false := by rfl) (hf : X.fn x = true ∨ X.env.scope.names.lookup x = some .local := by first | exact .inl rfl | exact .inr rfl | assumption) :
    PS X (.Assign [.Name x pos'] e pos) (tAsg te (gName i)) := by
  intro pins s σ H D I h
  refine wpAny_Assign_Name (thn (he pins s σ H _ I h) fun v s1 ⟨y, H1, I1, r1, q1⟩ => ?_) hs
  exact store_ok I1 hN hi hx r1 (fun s2 I2 => ⟨_, H1, I2, q1⟩) hf
/-- a, b = x, y with plain local names: stored from the right; the pair itself is not tracked (the opening rows as in PyProof/Rows/TupAssign.lean:23) -/
def tPar (i j : Nat) (ta : TA) : TS := fun D σ H => ta σ H fun vs H1 => ∃ v w, vs = [v, w] ∧ D.nx ((σ.set i (some v)).set j (some w)) H1
theorem ps_par {i j : Nat} {x y : Str} {a b : Expr} {ta : TA} {px py pt : Pos} {kt k2 pt2} (hc : X.calm = true) (hN : X.N.Nodup) (hi : X.N[i]? = some x) (hj : X.N[j]? = some y) (hij : i ≠ j)
    (hx : X.env.scope.names.lookup x = some .local) (hy : X.env.scope.names.lookup y = some .local) (ha : PA X [a, b] ta)
    (hw : swappedStores [.Tuple [.Name x px, .Name y py] kt pt] (.Tuple [a, b] k2 pt2) X.env = pure (some [x, y]))
    (hs : swapsWithSole [.Tuple [.Name x px, .Name y py] kt pt] (.Tuple [a, b] k2 pt2) pos.line X.env = pure false := by rfl) :
    PS X (.Assign [.Tuple [.Name x px, .Name y py] kt pt] (.Tuple [a, b] k2 pt2) pos) (tPar i j ta) := by
  intro pins s σ H D I h
  rw [exec_Assign_arm]
  refine wpAny_bind (wpAny_standAt ?_)
  rw [hs]
  refine wpAny_bind (wpAny_pure ?_)
  rw [if_neg (by decide)]
  refine wpAny_bind (Tuple_ (thn (ha _ pins s σ H _ I h) fun us s1 ⟨vs, H1, I1, r1, q1⟩ => ?_))
  obtain ⟨v, w, e1, q1⟩ := q1
  subst e1
  obtain ⟨u1, u2, rfl, rv, rw'⟩ : ∃ u1 u2, us = [u1, u2] ∧ RelV v u1 ∧ RelV w u2 := by
    cases r1 with
    | cons p q =>
      cases q with
      | cons p' q' =>
        cases q'
        exact ⟨_, _, rfl, p, p'⟩
  refine wpAny_newObj_type ?_ (by show 2 ≤ sizeLine; decide)
  have I2 : Inv X pins σ H1 { s1 with heap := s1.heap.push { cls := .type "tuple", data := .seq [u1, u2].toArray } } := I1.kept (t' := s1.toks) fun b o e => Heap.get?_push_of_some _ e
  rw [hw]
  refine wpAny_bind (wpAny_pure ?_)
  show wpAny (model X.prog X.w) X.A (do rule "assign.swapped-stores"; let items ← unpackItems (.ref s1.heap.objs.size) 2 none; assignInOrder [fun v => bindName X.env y v, fun v => bindName X.env x v] items.reverse; pure Flow.next) _ _ _
  refine wpAny_bind (wpAny_rule (wpAny_bind (unpackItems_tuple (items := #[u1, u2]) (I.ok.hd hc) (IsTup.new s1.heap _) fun h' hx' => ?_)))
  have I3 := I2.kept (h' := h') (t' := s1.toks) fun b o e => hx' b o (Nat.ne_of_lt (Heap.lt_size e)) e
  show wpAny _ _ (assignInOrder [fun v => bindName X.env y v, fun v => bindName X.env x v] [u2, u1] >>= fun _ => pure Flow.next) _ _ _
  refine wpAny_bind (assignInOrder_cons (wpAny_bindName (store_ok I3 hN hj (.inl hy) rw' (fun s2 I4 => ?_) (.inr hy))))
  refine assignInOrder_cons (wpAny_bindName (store_ok I4 hN hi (.inl hx) rv (fun s3 I5 => assignInOrder_nil (wpAny_pure ?_)) (.inr hx)))
  rw [List.set_comm _ _ (Ne.symm hij)] at I5
  exact ⟨_, H1, I5, q1⟩
/-- name op= e -/
def tAug (i : Nat) (te : TE) (ti : TIp) : TS := fun D σ H => ∃ x, σ[i]? = some (some x) ∧ te σ H fun y H1 => ti x y H1 fun z H2 => D.nx (σ.set i (some z)) H2
theorem ps_aug {i : Nat} {x : Str} {e : Expr} {te : TE} {op : Operator} {ti : TIp} {pos' : Pos} (hN : X.N.Nodup) (hi : X.N[i]? = some x) (hx : Loc X.env.scope x) (he : PE X e te) (ho : PIp X op ti) (hf : X.fn x = true ∨ X.env.scope.names.lookup x = some .local := by first | exact .inl rfl | exact .inr rfl | assumption) :
    PS X (.AugAssign (.Name x pos') op e pos) (tAug i te ti) := by
  intro pins s σ H D I h
  obtain ⟨v, e1, h⟩ := h
  obtain ⟨m, hn, hl⟩ := I.loc
  have vis : Vis X.env.scope x := by rcases hx with k | k; exact .inl k; exact .inr (.inl k)
  obtain ⟨u, r, l⟩ := hl i x v hi e1 vis
  refine wpAny_AugAssign_Name ?_
  have go : wpAny (model X.prog X.w) X.A (eval e X.env) (fun w s₂ => wpAny (model X.prog X.w) X.A (inplaceOp op u w) (fun r s₃ => wpAny (model X.prog X.w) X.A (storeName X.env x r) (fun _ => SP X pins D .next) X.xe s₃) X.xe s₂) X.xe s := by
    refine thn (he pins s σ H _ I h) fun w s1 ⟨y, H1, I1, r1, q1⟩ => ?_
    refine thn (ho pins s1 σ H1 v y u w _ I1 r r1 q1) fun z s2 ⟨zv, H2, I2, r2, q2⟩ => ?_
    exact store_ok I2 hN hi hx r2 (fun s3 I3 => ⟨_, H2, I3, q2⟩) hf
  rcases l with ⟨hk, hm⟩ | ⟨hk, c, hc, hcell⟩
  · exact wpAny_loadName_local I.ok.kind hk hn hm go
  · rcases hk with hk | hk
    · exact wpAny_loadName_cell I.ok.kind hk hc hcell go
    · rcases hx with k | k
      · have : X.env.scope.names.lookup x = some .free := hk
        rw [k] at this; cases this
      · have : X.env.scope.names.lookup x = some .free := hk
        rw [k] at this; cases this
/-- o[i] op= e -/
def tAugS (to ti te : TE) (tget : V → V → Hp → VK → Prop) (tip : TIp) (tset : TSet) : TS := fun D σ H => to σ H fun o H1 => ti σ H1 fun i H2 => tget o i H2 fun x H3 => te σ H3 fun y H4 => tip x y H4 fun z H5 => tset o i z H5 fun H6 => D.nx σ H6
/-- o[i], by values -/
def PGet (X : Cx) (t : V → V → Hp → VK → Prop) : Prop :=
  ∀ (pins : List (Addr × Obj)) (s : Shared) (σ : St) (H : Hp) (o i : V) (ov iv : Value) (Q : VK), Inv X pins σ H s → RelV o ov → RelV i iv → t o i H Q →
    wpAny (model X.prog X.w) X.A (getItem ov iv) (EP X pins σ Q) X.xe s
theorem ps_augS {o i e : Expr} {to ti te : TE} {tget : V → V → Hp → VK → Prop} {tip : TIp} {tset : TSet} {op : Operator} {tpos : Pos} (ho : PE X o to) (hi : PE X i ti) (hg : PGet X tget) (he : PE X e te) (hp : PIp X op tip) (hs : PSet X tset)
    (ha : ∀ ov iv new, augStore i ov iv new = (do holding [new, ov, iv] (setItem ov iv new); release [new, ov, iv] []; pure .next) := by intros; rfl) : PS X (.AugAssign (.Subscript o i tpos) op e pos) (tAugS to ti te tget tip tset) := by
  intro pins s σ H D I h
  refine wpAny_AugAssign_SubscriptAny (thn (ho pins s σ H _ I h) fun ov s1 ⟨x1, H1, I1, r1, q1⟩ => ?_) ha
  refine thn (hi pins s1 σ H1 _ I1 q1) fun iv s2 ⟨x2, H2, I2, r2, q2⟩ => ?_
  refine thn (hg pins s2 σ H2 x1 x2 ov iv _ I2 r1 r2 q2) fun old s3 ⟨x3, H3, I3, r3, q3⟩ => ?_
  refine thn (he pins s3 σ H3 _ I3 q3) fun v s4 ⟨x4, H4, I4, r4, q4⟩ => ?_
  refine thn (hp pins s4 σ H4 x3 x4 old v _ I4 r3 r4 q4) fun new s5 ⟨x5, H5, I5, r5, q5⟩ => ?_
  exact thn (hs pins s5 σ H5 x1 x2 x5 ov iv new _ I5 r1 r2 r5 q5) fun _ s6 ⟨H6, I6, q6⟩ => ⟨σ, H6, I6, q6⟩
/-- ints -/
def ipI (f : Int → Int → Int) : TIp := fun x y H Q => ∃ i j, x = .int i ∧ y = .int j ∧ Q (.int (f i j)) H
theorem ip_add : PIp X .Add (ipI fun i j => i + j) := by
  intro pins s σ H x y v u Q I r1 r2 h
  obtain ⟨i, j, e1, e2, q⟩ := h
  subst e1; subst e2
  obtain ⟨t, rfl⟩ := r1
  obtain ⟨t', rfl⟩ := r2
  exact iadd_int ⟨.int _, H, I.tok _, ⟨_, rfl⟩, q⟩
theorem ip_sub : PIp X .Sub (ipI fun i j => i - j) := by
  intro pins s σ H x y v u Q I r1 r2 h
  obtain ⟨i, j, e1, e2, q⟩ := h
  subst e1; subst e2
  obtain ⟨t, rfl⟩ := r1
  obtain ⟨t', rfl⟩ := r2
  exact isub_int ⟨.int _, H, I.tok _, ⟨_, rfl⟩, q⟩
end

/-! ### while -/
section
variable {X : Cx} {pos : Pos}
/-- the invariant W with its measure -/
def tWhile (c : TT) (tb : TS) : TS := fun D σ H => ∃ W : Nat → St → Hp → Prop, (∃ m, W m σ H) ∧ ∀ m σ H, W m σ H →
  c σ H fun b H1 => if b = true then ∃ N : St → Hp → Prop, (∀ σ' H', N σ' H' → ∃ m', m' < m ∧ W m' σ' H') ∧ tb { D with nx := N, ct := N, bk := D.nx } σ H1 else D.nx σ H1
theorem ps_while {c : Expr} {body : List Stmt} {tc : TT} {tb : TS} (hp : PassesOwn (model X.prog X.w) X.A X.env X.xe) (hc : PT X c tc) (hb : PSs X body tb) : PS X (.While c body [] pos) (tWhile tc tb) := by
  intro pins s σ H D I h
  obtain ⟨W, ⟨m0, w0⟩, turn⟩ := h
  refine wpAny_While (codeAny_whileLoop (fun n s' => ∃ σ' H', Inv X pins σ' H' s' ∧ W n σ' H') ?_ m0 ⟨σ, H, I, w0⟩)
  rintro n s1 ⟨σ1, H1, I1, w1⟩
  refine wpAny_passesOwn hp (thn (hc pins s1 σ1 H1 _ I1 (turn n σ1 H1 w1)) fun b s2 ⟨H2, I2, q2⟩ => ?_)
  cases b with
  | true =>
    obtain ⟨N, hN, q2⟩ := q2
    rw [if_pos rfl]
    refine wpAny_passesOwn hp (thn (hb pins s2 σ1 H2 _ I2 q2) fun f s3 q3 => ?_)
    cases f with
    | next =>
      obtain ⟨σ3, H3, I3, n3⟩ := q3
      obtain ⟨m', hm, w3⟩ := hN σ3 H3 n3
      exact ⟨m', hm, σ3, H3, I3, w3⟩
    | cont =>
      obtain ⟨σ3, H3, I3, n3⟩ := q3
      obtain ⟨m', hm, w3⟩ := hN σ3 H3 n3
      exact ⟨m', hm, σ3, H3, I3, w3⟩
    | brk => exact q3
    | ret v => exact q3
  | false =>
    rw [if_neg Bool.false_ne_true]
    exact wpAny_execs_nil ⟨σ1, H2, I2, q2⟩
end

/-! ### what a loop or a comprehension walks -/
/-- at turn i: it yields x (the heap may grow), or it stops -/
structure It where
  go : Nat → Hp → Prop
  yld : Nat → Hp → V → Hp → Prop
  stop : Nat → Hp → Prop
/-- the iterator's own objects may turn: they are not the frame's, not pinned, younger than the entry (or a comprehension's own) -/
def FpOk (X : Cx) (pins : List (Addr × Obj)) (H : Hp) (b : Addr) : Prop :=
  H b = none ∧ b ≠ X.env.locals ∧ b ∉ X.fs ∧ (b ∈ X.ex ∨ X.s₀.heap.objs.size ≤ b) ∧ (∀ x c, X.env.cells.lookup x = some c → c ≠ b) ∧ ∀ p ∈ X.pn ++ pins, p.1 ≠ b
theorem Inv.fpOk {X : Cx} {pins : List (Addr × Obj)} {σ : St} {H H' : Hp} {s : Shared} {b : Addr} (I : Inv X pins σ H s) (hb : s.heap.objs.size ≤ b) (hn : H' b = none) : FpOk X pins H' b := by
  refine ⟨hn, Nat.ne_of_gt (Nat.lt_of_lt_of_le I.lt hb), I.nofs hb, .inr (Nat.le_trans I.sz hb), fun x c e z => ?_, fun p hp z => ?_⟩
  · obtain ⟨v, q⟩ := I.cell x c e
    exact absurd (Nat.lt_of_lt_of_le q.lt (by rw [z]; exact hb)) (Nat.lt_irrefl _)
  · exact absurd (Nat.lt_of_lt_of_le (Heap.lt_size (I.pin p hp).1) (by rw [z]; exact hb)) (Nat.lt_irrefl _)
structure Turn (P : Program) (w : World) (K : PySem.W.Frag) (tg : Expr) (J : It) (fp : List Addr) (it : Addr) (tn : Nat → Heap → Prop) : Prop where
  mem : it ∈ fp
  obj : ∀ i h, tn i h → ∀ b ∈ fp, ∃ o, h.get? b = some o ∧ ∀ v, o.data ≠ .cell v
  keep : ∀ i h h', tn i h → (∀ b ∈ fp, ∀ o, h.get? b = some o → h'.get? b = some o) → tn i h'
  item : ∀ (X : Cx), X.prog = P → X.w = w → X.K = K → X.calm = true → ∀ (i : Nat) (pins : List (Addr × Obj)) (s : Shared) (σ : St) (H : Hp) (E : Value → Shared → Prop), Inv X pins σ H s → (∀ b ∈ fp, FpOk X pins H b) → tn i s.heap → J.go i H →
    wpAny (model P w) X.A (pyNext (.ref it)) (fun r s1 => ∃ u, r = some u ∧
      wpAny (model P w) X.A (letOwnedTupleGo tg (.ref it) u) (fun _ s2 => ∃ x H', Inv X pins σ H' s2 ∧ RelV x u ∧ J.yld i H x H' ∧ tn (i + 1) s2.heap ∧ ∀ b ∈ fp, H' b = none) E s1) E s
  done : ∀ (X : Cx), X.prog = P → X.w = w → X.K = K → X.calm = true → ∀ (i : Nat) (pins : List (Addr × Obj)) (s : Shared) (σ : St) (H : Hp) (E : Value → Shared → Prop), Inv X pins σ H s → (∀ b ∈ fp, FpOk X pins H b) → tn i s.heap → J.stop i H →
    wpAny (model P w) X.A (pyNext (.ref it)) (fun r s1 => r = none ∧ Inv X pins σ H s1) E s
  self : ∀ (A : Around) (i : Nat) (s : Shared) (Q : Value → Shared → Prop) (E : Value → Shared → Prop), tn i s.heap → Q (.ref it) s → wpAny (model P w) A (pyIter (.ref it)) Q E s
abbrev TI := St → Hp → (It → Hp → Prop) → Prop
/-- an iterator has come -/
def PIE (X : Cx) (pins : List (Addr × Obj)) (σ : St) (tg : Expr) (R : It → Hp → Prop) (itv : Value) (s2 : Shared) : Prop :=
  ∃ (it : Addr) (fp : List Addr) (tn : Nat → Heap → Prop) (J : It) (H' : Hp), itv = .ref it ∧ Inv X pins σ H' s2 ∧ Turn X.prog X.w X.K tg J fp it tn ∧ tn 0 s2.heap ∧ (∀ b ∈ fp, FpOk X pins H' b) ∧ R J H'
def PI (X : Cx) (tg iter : Expr) (wi : TI) : Prop :=
  ∀ (pins : List (Addr × Obj)) (s : Shared) (σ : St) (H : Hp) (R : It → Hp → Prop), Inv X pins σ H s → wi σ H R →
    wpAny (model X.prog X.w) X.A (eval iter X.env) (fun v s1 => wpAny (model X.prog X.w) X.A (pyIter v) (PIE X pins σ tg R) X.xe s1) X.xe s

/-- the step ahead of the store is nothing for an iterator that keeps no tuple -/
theorem go_of {M : Model} {A : Around} {E : Value → Shared → Prop} {s : Shared} {tg : Expr} {it : Addr} {u : Value} {o : Obj} {n : String} {vs : Array Value} {Q : Unit → Shared → Prop} (ho : s.heap.get? it = some o) (hc : o.cls = .type n) (hd : o.data = .fields vs)
    (hn : ["enumerate", "zip", "dict_itemiterator", "dict_reverseitemiterator", "odict_iterator", "itertools.zip_longest", "itertools.pairwise"].contains n = false) (hQ : Q () s) : wpAny M A (letOwnedTupleGo tg (.ref it) u) Q E s := by
  unfold letOwnedTupleGo
  cases tg <;> first
    | exact wpAny_pure hQ
    | (cases u <;> first
        | exact wpAny_pure hQ
        | (refine wpAny_bind (wpAny_load ho ?_)
           rw [hc, hd]
           show wpAny M A (if (["enumerate", "zip", "dict_itemiterator", "dict_reverseitemiterator", "odict_iterator", "itertools.zip_longest", "itertools.pairwise"].contains n && vs[0]? == some (rawInt _)) = true then _ else _) Q E s
           rw [if_neg (by intro h; rw [hn, Bool.false_and] at h; cases h)]
           exact wpAny_pure hQ))

/-- the list at a, as it stands at each turn (a loop may append to it) -/
def Itl (K : PySem.W.Frag) (a : Addr) : It :=
  ⟨fun i H => ∃ xs x, SqL K H a xs ∧ xs[i]? = some x, fun i H x H' => H' = H ∧ ∀ xs, SqL K H a xs → xs[i]? = some x, fun i H => ∃ xs, SqL K H a xs ∧ xs.length ≤ i⟩
def Itt (K : PySem.W.Frag) (a : Addr) : It :=
  ⟨fun i H => ∃ xs x, SqT K H a xs ∧ xs[i]? = some x, fun i H x H' => H' = H ∧ ∀ xs, SqT K H a xs → xs[i]? = some x, fun i H => ∃ xs, SqT K H a xs ∧ xs.length ≤ i⟩
/-- lo, lo + 1, .. (n of them) -/
def Itr (lo : Int) (n : Nat) : It := ⟨fun i _ => i < n, fun i H x H' => H' = H ∧ x = .int (lo + i), fun i _ => n ≤ i⟩
theorem turn_list {P : Program} {w : World} {K : PySem.W.Frag} {tg : Expr} (a it : Addr) : Turn P w K tg (Itl K a) [it] it (fun i h => h.IsListIter it a i) where
  mem := by simp
  obj := fun i h st b hb => by
    have e : b = it := by simpa using hb
    subst e
    obtain ⟨o, e, c, d⟩ := st
    exact ⟨o, e, fun v z => by rw [d] at z; cases z⟩
  keep := fun i h h' st k => st.at fun o e => k it (by simp) o e
  item := by
    intro X hP hw hK hc i pins s σ H E I hf st hg
    subst hP hw hK
    obtain ⟨xs, x, hq, hx⟩ := hg
    obtain ⟨its, rv, p, hz⟩ := I.list hq
    obtain ⟨u, hu, ru⟩ := rv.get hx
    obtain ⟨f0, f1, f2, f3, f4, f5⟩ := hf it (by simp)
    refine wpAny_pyNext_list_item st p.isList (x := u) (by simpa using hu) fun h' st' sb => ?_
    have I1 : Inv X pins σ H { s with heap := h' } := I.turned (t' := s.toks) (fun b o hb e => (sb.2 b hb).trans e) f0 f1 f3 f4 f5
    obtain ⟨o, e, c, d⟩ := id st'
    exact ⟨u, rfl, go_of (s := { s with heap := h' }) e c d (by decide) ⟨x, H, I1, ru, ⟨rfl, fun ys hy => by rw [I.list_inj hy hq]; exact hx⟩, st', fun b hb => (hf b hb).1⟩⟩
  done := by
    intro X hP hw hK hc i pins s σ H E I hf st hg
    subst hP hw hK
    obtain ⟨xs, hq, hx⟩ := hg
    obtain ⟨its, rv, p, hz⟩ := I.list hq
    obtain ⟨f0, f1, f2, f3, f4, f5⟩ := hf it (by simp)
    have hl := rv.length
    exact wpAny_pyNext_list_end (I.ok.hd hc) st p.isList (by simp; omega) fun h' eb => ⟨rfl, I.turned (t' := s.toks) (fun b o hb e => eb b o hb e) f0 f1 f3 f4 f5⟩
  self := fun _ _ _ _ _ st h => wpAny_pyIter_listiter st h
theorem turn_tuple {P : Program} {w : World} {K : PySem.W.Frag} {tg : Expr} (a it : Addr) : Turn P w K tg (Itt K a) [it] it (fun i h => h.IsTupleIter it a i) where
  mem := by simp
  obj := fun i h st b hb => by
    have e : b = it := by simpa using hb
    subst e
    obtain ⟨o, e, c, d⟩ := st
    exact ⟨o, e, fun v z => by rw [d] at z; cases z⟩
  keep := fun i h h' st k => st.at fun o e => k it (by simp) o e
  item := by
    intro X hP hw hK hc i pins s σ H E I hf st hg
    subst hP hw hK
    obtain ⟨xs, x, hq, hx⟩ := hg
    obtain ⟨its, rv, p, hz⟩ := I.tuple hq
    obtain ⟨u, hu, ru⟩ := rv.get hx
    obtain ⟨f0, f1, f2, f3, f4, f5⟩ := hf it (by simp)
    refine wpAny_pyNext_tuple_item st (show s.heap.IsTuple a its.toArray from p) (x := u) (by simpa using hu) fun h' st' sb => ?_
    have I1 : Inv X pins σ H { s with heap := h' } := I.turned (t' := s.toks) (fun b o hb e => (sb.2 b hb).trans e) f0 f1 f3 f4 f5
    obtain ⟨o, e, c, d⟩ := id st'
    exact ⟨u, rfl, go_of (s := { s with heap := h' }) e c d (by decide) ⟨x, H, I1, ru, ⟨rfl, fun ys hy => by rw [I.tuple_inj hy hq]; exact hx⟩, st', fun b hb => (hf b hb).1⟩⟩
  done := by
    intro X hP hw hK hc i pins s σ H E I hf st hg
    subst hP hw hK
    obtain ⟨xs, hq, hx⟩ := hg
    obtain ⟨its, rv, p, hz⟩ := I.tuple hq
    obtain ⟨f0, f1, f2, f3, f4, f5⟩ := hf it (by simp)
    have hl := rv.length
    exact wpAny_pyNext_tuple_end (I.ok.hd hc) st (show s.heap.IsTuple a its.toArray from p) (by simp; omega) fun h' eb => ⟨rfl, I.turned (t' := s.toks) (fun b o hb e => eb b o hb e) f0 f1 f3 f4 f5⟩
  self := fun _ _ _ _ _ st h => wpAny_pyIter_tupleiter st h
theorem turn_range {P : Program} {w : World} {K : PySem.W.Frag} {tg : Expr} (it : Addr) (lo : Int) (n : Nat) : Turn P w K tg (Itr lo n) [it] it (fun i h => IsRangeIter h it (lo + (i : Nat) * 1) ((n : Int) - (i : Nat)) 1) where
  mem := by simp
  obj := fun i h st b hb => by
    have e : b = it := by simpa using hb
    subst e
    exact ⟨_, st, fun v z => by
      have z' : Data.fields _ = Data.cell v := z
      cases z'⟩
  keep := fun i h h' st k => k it (by simp) _ st
  item := by
    intro X hP hw hK hc i pins s σ H E I hf st hg
    subst hP hw hK
    obtain ⟨f0, f1, f2, f3, f4, f5⟩ := hf it (by simp)
    have W := Walks.range (prog := X.prog) (w := X.w) (I.ok.hd hc) it lo 1 n
    refine W.item i s _ _ hg st fun v h' tk hv st' kk => ?_
    obtain ⟨t, rfl⟩ := hv
    have I1 : Inv X pins σ H { s with heap := h', toks := tk } := I.turned (fun b o hb e => kk b o (by simpa using hb) e) f0 f1 f3 f4 f5
    refine ⟨_, rfl, go_of (s := { s with heap := h', toks := tk }) (n := "range_iterator") st' rfl rfl (by decide) ⟨.int (lo + i), H, I1, ⟨t, ?_⟩, ⟨rfl, rfl⟩, st', fun b hb => (hf b hb).1⟩⟩
    rw [Int.mul_one]
  done := by
    intro X hP hw hK hc i pins s σ H E I hf st hg
    subst hP hw hK
    obtain ⟨f0, f1, f2, f3, f4, f5⟩ := hf it (by simp)
    exact wpAny_pyNext_range_end (I.ok.hd hc) st (by have : n ≤ i := hg; omega) fun h' eb => ⟨rfl, I.turned (t' := s.toks) (fun b o hb e => eb b o hb e) f0 f1 f3 f4 f5⟩
  self := fun _ _ _ _ _ st h => wpAny_pyIter_rangeiter st h
end L2

namespace L2
open PySem PySem.Spec PyProof.Rows
section
variable {X : Cx} {tg : Expr}
def iList (K : PySem.W.Frag) (tl : TE) : TI := fun σ H R => tl σ H fun x H1 => ∃ a, x = .ref a ∧ (∃ xs, SqL K H1 a xs) ∧ R (Itl K a) H1
def iTup (K : PySem.W.Frag) (tl : TE) : TI := fun σ H R => tl σ H fun x H1 => ∃ a, x = .ref a ∧ (∃ xs, SqT K H1 a xs) ∧ R (Itt K a) H1
theorem pi_list {l : Expr} {tl : TE} (hl : PE X l tl) : PI X tg l (iList X.K tl) := by
  intro pins s σ H R I h
  refine thn (hl pins s σ H _ I h) fun v s1 ⟨x, H1, I1, r1, q1⟩ => ?_
  obtain ⟨a, e, ⟨xs, hq⟩, q⟩ := q1
  subst e
  cases r1
  obtain ⟨its, rv, p, hz⟩ := I1.list hq
  refine wpAny_pyIter_list p.isList ?_
  refine ⟨s1.heap.objs.size, [s1.heap.objs.size], _, _, H1, rfl, I1.kept (t' := s1.toks) fun b o e => Heap.get?_push_of_some _ e, turn_list a _, ⟨_, Heap.get?_push_size _ rfl, rfl, rfl⟩, fun b hb => ?_, q⟩
  have e : b = s1.heap.objs.size := by simpa using hb
  subst e
  exact I1.fpOk (Nat.le_refl _) (I1.hok.fresh (Nat.le_refl _))
theorem pi_tup {l : Expr} {tl : TE} (hl : PE X l tl) : PI X tg l (iTup X.K tl) := by
  intro pins s σ H R I h
  refine thn (hl pins s σ H _ I h) fun v s1 ⟨x, H1, I1, r1, q1⟩ => ?_
  obtain ⟨a, e, ⟨xs, hq⟩, q⟩ := q1
  subst e
  cases r1
  obtain ⟨its, rv, p, hz⟩ := I1.tuple hq
  refine wpAny_pyIter_tuple (show s1.heap.IsTuple a its.toArray from p) ?_
  refine ⟨s1.heap.objs.size, [s1.heap.objs.size], _, _, H1, rfl, I1.kept (t' := s1.toks) fun b o e => Heap.get?_push_of_some _ e, turn_tuple a _, ⟨_, Heap.get?_push_size _ rfl, rfl, rfl⟩, fun b hb => ?_, q⟩
  have e : b = s1.heap.objs.size := by simpa using hb
  subst e
  exact I1.fpOk (Nat.le_refl _) (I1.hok.fresh (Nat.le_refl _))
/-- a range object just made, walked -/
theorem range_it {pins : List (Addr × Obj)} {σ : St} {H : Hp} {s : Shared} {R : It → Hp → Prop} {E : Value → Shared → Prop} {lo hi : Int} {t u v : Tok} {tk : Nat} (I : Inv X pins σ H s) (h1 : -(2 ^ 62) ≤ lo) (h2 : lo < 2 ^ 62) (h3 : -(2 ^ 62) ≤ hi) (h4 : hi < 2 ^ 62)
    (q : R (Itr lo (hi - lo).toNat) H) : wpAny (model X.prog X.w) X.A (pyIter (.ref s.heap.objs.size)) (PIE X pins σ tg R) E { s with heap := s.heap.push { cls := .type "range", data := .fields #[.int lo t, .int hi u, .int 1 v] }, toks := tk } := by
  refine wpAny_pyIter_range (IsRange.new ..) (small_one h1 h2 h3 h4) ?_
  have I1 : Inv X pins σ H { s with heap := s.heap.push { cls := .type "range", data := .fields #[.int lo t, .int hi u, .int 1 v] }, toks := tk } := I.kept fun b o e => Heap.get?_push_of_some _ e
  refine ⟨(s.heap.push { cls := .type "range", data := .fields #[.int lo t, .int hi u, .int 1 v] }).objs.size, [(s.heap.push { cls := .type "range", data := .fields #[.int lo t, .int hi u, .int 1 v] }).objs.size], _, _, H, rfl,
    I1.kept (t' := tk) fun b o e => Heap.get?_push_of_some _ e, turn_range _ lo (hi - lo).toNat, ?_, fun b hb => ?_, q⟩
  · have e1 : lo + ((0 : Nat) : Int) * 1 = lo := by simp
    have e2 : (((hi - lo).toNat : Nat) : Int) - ((0 : Nat) : Int) = Builtin.Range.rangeSize lo hi 1 := by rw [rangeSize_one]; split <;> omega
    show IsRangeIter _ _ (lo + ((0 : Nat) : Int) * 1) ((((hi - lo).toNat : Nat) : Int) - ((0 : Nat) : Int)) 1
    rw [e1, e2]
    exact Heap.get?_push_size _ rfl
  · have e : b = (s.heap.push { cls := .type "range", data := .fields #[.int lo t, .int hi u, .int 1 v] }).objs.size := by simpa using hb
    subst e
    exact I1.fpOk (Nat.le_refl _) (I1.hok.fresh (Nat.le_refl _))
def iRng1 (ta : TA) : TI := fun σ H R => ta σ H fun vs H1 => ∃ j : Int, vs = [.int j] ∧ -(2 ^ 62) ≤ j ∧ j < 2 ^ 62 ∧ R (Itr 0 j.toNat) H1
def iRng2 (ta : TA) : TI := fun σ H R => ta σ H fun vs H1 => ∃ i j : Int, vs = [.int i, .int j] ∧ (-(2 ^ 62) ≤ i ∧ i < 2 ^ 62 ∧ -(2 ^ 62) ≤ j ∧ j < 2 ^ 62) ∧ R (Itr i (j - i).toNat) H1
theorem pi_range1 {a : Expr} {ta : TA} {p pos : Pos} (hg : Gl X "range") (hm : X.mg "range" = none) (ha : PA X [a] ta) (hs : starEach [a] X.env = [(false, eval a X.env)] := by rfl) : PI X tg (.Call (.Name "range" p) [a] [] pos) (iRng1 ta) := by
  intro pins s σ H R I h
  refine Call_ (ld_blt I hg hm boot_range (PyProof.Rows.callWith_type1 (thn (ha pos pins s σ H _ I h) fun us s1 ⟨vs, H1, I1, r1, q1⟩ => ?_) hs rfl))
  obtain ⟨j, e, q1, q2, q⟩ := q1
  subst e
  cases r1 with
  | cons r rr =>
    cases rr
    obtain ⟨t, rfl⟩ := r
    exact call_range_1 (range_it I1 (by omega) (by omega) q1 q2 (by simpa using q))
theorem pi_range2 {a b : Expr} {ta : TA} {p pos : Pos} (hg : Gl X "range") (hm : X.mg "range" = none) (ha : PA X [a, b] ta) (hs : starEach [a, b] X.env = [(false, eval a X.env), (false, eval b X.env)] := by rfl) (hs2 : starEach [b] X.env = [(false, eval b X.env)] := by rfl) :
    PI X tg (.Call (.Name "range" p) [a, b] [] pos) (iRng2 ta) := by
  intro pins s σ H R I h
  refine Call_ (ld_blt I hg hm boot_range (PyProof.Rows.callWith_type1 (thn (ha pos pins s σ H _ I h) fun us s1 ⟨vs, H1, I1, r1, q1⟩ => ?_) (by rw [hs, hs2]) (by rw [hs2]; rfl)))
  obtain ⟨i, j, e, ⟨q1, q2, q3, q4⟩, q⟩ := q1
  subst e
  cases r1 with
  | cons r rr =>
    cases rr with
    | cons r' rr =>
      cases rr
      obtain ⟨t, rfl⟩ := r
      obtain ⟨t', rfl⟩ := r'
      exact call_range_2 (range_it I1 q1 q2 q3 q4 q)

/-! ### for -/
/-- W: the invariant by the turn and a measure; N: what the body is to reach -/
def tFor (wi : TI) (g : TG) (tb : TS) : TS := fun D σ H => wi σ H fun J H1 => ∃ W : Nat → Nat → St → Hp → Prop, (∃ m, W 0 m σ H1) ∧ ∀ i m σ H, W i m σ H →
  (J.stop i H ∧ D.nx σ H) ∨ (J.go i H ∧ ∃ N : St → Hp → Prop, (∀ σ' H', N σ' H' → ∃ m', m' < m ∧ W (i + 1) m' σ' H') ∧ ∀ x H', J.yld i H x H' → g x σ H' fun σ2 H2 => tb { D with nx := N, ct := N, bk := D.nx } σ2 H2)
/-- the records at fp as they stand -/
def pinsAt (fp : List Addr) (h : Heap) : List (Addr × Obj) := fp.filterMap fun b => (h.get? b).map fun o => (b, o)
theorem mem_pinsAt {fp : List Addr} {h : Heap} {b : Addr} {o : Obj} (hb : b ∈ fp) (e : h.get? b = some o) : (b, o) ∈ pinsAt fp h := List.mem_filterMap.mpr ⟨b, hb, by rw [e]; rfl⟩
theorem of_pinsAt {fp : List Addr} {h : Heap} {p : Addr × Obj} (hp : p ∈ pinsAt fp h) : p.1 ∈ fp ∧ h.get? p.1 = some p.2 := by
  obtain ⟨b, hb, e⟩ := List.mem_filterMap.mp hp
  cases q : h.get? b with
  | none => rw [q] at e; cases e
  | some o =>
    rw [q] at e
    have e' : (b, o) = p := Option.some.inj e
    subst e'
    exact ⟨hb, q⟩
theorem Inv.pinned {pins : List (Addr × Obj)} {σ : St} {H : Hp} {s : Shared} {fp : List Addr} (I : Inv X pins σ H s) (hf : ∀ b ∈ fp, FpOk X pins H b) (ho : ∀ b ∈ fp, ∃ o, s.heap.get? b = some o ∧ ∀ v, o.data ≠ .cell v) : Inv X (pins ++ pinsAt fp s.heap) σ H s :=
  I.pins_of fun p hp => (List.mem_append.mp hp).elim (fun z => I.pin p (List.mem_append_right _ z)) fun z => by
    obtain ⟨hb, e⟩ := of_pinsAt z
    obtain ⟨f0, f1, f2, _⟩ := hf p.1 hb
    obtain ⟨o, e', d⟩ := ho p.1 hb
    rw [e] at e'; cases e'
    exact ⟨e, f0, f1, f2, d⟩
theorem Inv.unpinned {pins pl : List (Addr × Obj)} {σ : St} {H : Hp} {s : Shared} (I : Inv X (pins ++ pl) σ H s) : Inv X pins σ H s := I.pins_of fun p hp => I.pin p (List.mem_append_right _ (List.mem_append_left _ hp))
theorem ps_for {iter : Expr} {body : List Stmt} {wi : TI} {g : TG} {tb : TS} {pos : Pos} (hp : PassesOwn (model X.prog X.w) X.A X.env X.xe) (hc : X.calm = true) (hi : PI X tg iter wi) (hg : PG X tg g) (hb : PSs X body tb)
    (hs : ∀ x, foldedSetIterable iter X.env x = pure x := by intro _; rfl) : PS X (.For tg iter body [] pos) (tFor wi g tb) := by
  intro pins s σ H D I h
  refine wpAny_For (thn (hi pins s σ H _ I h) fun v s1 h1 => thn h1 fun itv s2 h2 => ?_) hs
  obtain ⟨it, fp, tn, J, H2, e, I2, T, st2, f2, W, ⟨m0, w0⟩, turn⟩ := h2
  subst e
  -- what stays true of the iterator's objects through the loop
  have stat : ∀ {H' : Hp}, (∀ b ∈ fp, H' b = none) → ∀ b ∈ fp, FpOk X pins H' b := fun hn b hb => ⟨hn b hb, (f2 b hb).2⟩
  refine codeAny_forLoop_any (fun n s' => ∃ i σ' H', Inv X pins σ' H' s' ∧ tn i s'.heap ∧ (∀ b ∈ fp, H' b = none) ∧ W i n σ' H') ?_ m0 ⟨0, σ, H2, I2, st2, fun b hb => (f2 b hb).1, w0⟩
  rintro n s3 ⟨i, σ3, H3, I3, st3, fr3, w3⟩
  rcases turn i n σ3 H3 w3 with ⟨stop, qn⟩ | ⟨go, N, hN, step⟩
  · refine wpAny_passesOwn hp (thn (T.done X rfl rfl rfl hc i pins s3 σ3 H3 X.xe I3 (stat fr3) st3 stop) fun r s4 ⟨hr, I4⟩ => ?_)
    subst hr
    exact wpAny_execs_nil ⟨σ3, H3, I4, qn⟩
  · refine wpAny_passesOwn hp (thn (T.item X rfl rfl rfl hc i pins s3 σ3 H3 X.xe I3 (stat fr3) st3 go) fun r s4 ⟨u, hr, h4⟩ => ?_)
    subst hr
    refine wpAny_passesOwn hp (thn h4 fun _ s5 ⟨x, H5, I5, r5, y5, st5, fr5⟩ => ?_)
    have I5' := I5.pinned (stat fr5) (T.obj _ _ st5)
    refine wpAny_passesOwn hp (thn (hg _ s5 σ3 H5 x u _ I5' r5 (step x H5 y5)) fun _ s6 ⟨σ6, H6, I6, q6⟩ => ?_)
    refine wpAny_passesOwn hp (thn (hb _ s6 σ6 H6 _ I6 q6) fun f s7 q7 => ?_)
    have again : ∀ {σ7 : St} {H7 : Hp}, Inv X (pins ++ pinsAt fp s5.heap) σ7 H7 s7 → N σ7 H7 → ∃ m, m < n ∧ ∃ i σ' H', Inv X pins σ' H' s7 ∧ tn i s7.heap ∧ (∀ b ∈ fp, H' b = none) ∧ W i m σ' H' := fun {σ7 H7} I7 n7 => by
      obtain ⟨m', hm, w7⟩ := hN σ7 H7 n7
      refine ⟨m', hm, i + 1, σ7, H7, I7.unpinned, T.keep _ _ _ st5 fun b hb o e => (I7.pin (b, o) (List.mem_append_right _ (List.mem_append_right _ (mem_pinsAt hb e)))).1, fun b hb => ?_, w7⟩
      obtain ⟨o, e, d⟩ := T.obj _ _ st5 b hb
      exact (I7.pin (b, o) (List.mem_append_right _ (List.mem_append_right _ (mem_pinsAt hb e)))).2.1
    cases f with
    | next => obtain ⟨σ7, H7, I7, n7⟩ := q7; exact again I7 n7
    | cont => obtain ⟨σ7, H7, I7, n7⟩ := q7; exact again I7 n7
    | brk => obtain ⟨σ7, H7, I7, q7⟩ := q7; exact ⟨σ7, H7, I7.unpinned, q7⟩
    | ret v => obtain ⟨x7, σ7, H7, I7, r7, q7⟩ := q7; exact ⟨x7, σ7, H7, I7.unpinned, r7, q7⟩
end

/-! ### the forms one uses -/
/-- over a list that the body leaves as it is -/
theorem for_list {K : PySem.W.Frag} {a : Addr} {xs : List V} {g : TG} {tb : TS} {D : Ends} {σ : St} {H : Hp} (Pv : Nat → St → Hp → Prop) (h0 : Pv 0 σ H) (hl : ∀ i σ H, i ≤ xs.length → Pv i σ H → SqL K H a xs)
    (hs : ∀ i x σ H, xs[i]? = some x → Pv i σ H → g x σ H fun σ2 H2 => tb { D with nx := Pv (i + 1), ct := Pv (i + 1), bk := D.nx } σ2 H2) (hd : ∀ σ H, Pv xs.length σ H → D.nx σ H) :
    ∃ W : Nat → Nat → St → Hp → Prop, (∃ m, W 0 m σ H) ∧ ∀ i m σ H, W i m σ H →
      ((Itl K a).stop i H ∧ D.nx σ H) ∨ ((Itl K a).go i H ∧ ∃ N : St → Hp → Prop, (∀ σ' H', N σ' H' → ∃ m', m' < m ∧ W (i + 1) m' σ' H') ∧ ∀ x H', (Itl K a).yld i H x H' → g x σ H' fun σ2 H2 => tb { D with nx := N, ct := N, bk := D.nx } σ2 H2) := by
  refine ⟨fun i m σ H => m = xs.length - i ∧ i ≤ xs.length ∧ Pv i σ H, ⟨xs.length, by simp, Nat.zero_le _, h0⟩, ?_⟩
  rintro i m σ H ⟨rfl, hi, p⟩
  have q := hl i σ H hi p
  by_cases hlt : i < xs.length
  · refine .inr ⟨⟨xs, xs[i], q, by simp [hlt]⟩, Pv (i + 1), fun σ' H' p' => ⟨xs.length - (i + 1), by omega, rfl, hlt, p'⟩, fun x H' y => ?_⟩
    obtain ⟨e, y⟩ := y
    subst e
    exact hs i x σ _ (y xs q) p
  · have e : i = xs.length := by omega
    subst e
    exact .inl ⟨⟨xs, q, Nat.le_refl _⟩, hd σ H p⟩
theorem for_tup {K : PySem.W.Frag} {a : Addr} {xs : List V} {g : TG} {tb : TS} {D : Ends} {σ : St} {H : Hp} (Pv : Nat → St → Hp → Prop) (h0 : Pv 0 σ H) (hl : ∀ i σ H, i ≤ xs.length → Pv i σ H → SqT K H a xs)
    (hs : ∀ i x σ H, xs[i]? = some x → Pv i σ H → g x σ H fun σ2 H2 => tb { D with nx := Pv (i + 1), ct := Pv (i + 1), bk := D.nx } σ2 H2) (hd : ∀ σ H, Pv xs.length σ H → D.nx σ H) :
    ∃ W : Nat → Nat → St → Hp → Prop, (∃ m, W 0 m σ H) ∧ ∀ i m σ H, W i m σ H →
      ((Itt K a).stop i H ∧ D.nx σ H) ∨ ((Itt K a).go i H ∧ ∃ N : St → Hp → Prop, (∀ σ' H', N σ' H' → ∃ m', m' < m ∧ W (i + 1) m' σ' H') ∧ ∀ x H', (Itt K a).yld i H x H' → g x σ H' fun σ2 H2 => tb { D with nx := N, ct := N, bk := D.nx } σ2 H2) := by
  refine ⟨fun i m σ H => m = xs.length - i ∧ i ≤ xs.length ∧ Pv i σ H, ⟨xs.length, by simp, Nat.zero_le _, h0⟩, ?_⟩
  rintro i m σ H ⟨rfl, hi, p⟩
  have q := hl i σ H hi p
  by_cases hlt : i < xs.length
  · refine .inr ⟨⟨xs, xs[i], q, by simp [hlt]⟩, Pv (i + 1), fun σ' H' p' => ⟨xs.length - (i + 1), by omega, rfl, hlt, p'⟩, fun x H' y => ?_⟩
    obtain ⟨e, y⟩ := y
    subst e
    exact hs i x σ _ (y xs q) p
  · have e : i = xs.length := by omega
    subst e
    exact .inl ⟨⟨xs, q, Nat.le_refl _⟩, hd σ H p⟩
theorem for_range {lo : Int} {n : Nat} {g : TG} {tb : TS} {D : Ends} {σ : St} {H : Hp} (Pv : Nat → St → Hp → Prop) (h0 : Pv 0 σ H)
    (hs : ∀ i σ H, i < n → Pv i σ H → g (.int (lo + i)) σ H fun σ2 H2 => tb { D with nx := Pv (i + 1), ct := Pv (i + 1), bk := D.nx } σ2 H2) (hd : ∀ σ H, Pv n σ H → D.nx σ H) :
    ∃ W : Nat → Nat → St → Hp → Prop, (∃ m, W 0 m σ H) ∧ ∀ i m σ H, W i m σ H →
      ((Itr lo n).stop i H ∧ D.nx σ H) ∨ ((Itr lo n).go i H ∧ ∃ N : St → Hp → Prop, (∀ σ' H', N σ' H' → ∃ m', m' < m ∧ W (i + 1) m' σ' H') ∧ ∀ x H', (Itr lo n).yld i H x H' → g x σ H' fun σ2 H2 => tb { D with nx := N, ct := N, bk := D.nx } σ2 H2) := by
  refine ⟨fun i m σ H => m = n - i ∧ i ≤ n ∧ Pv i σ H, ⟨n, by simp, Nat.zero_le _, h0⟩, ?_⟩
  rintro i m σ H ⟨rfl, hi, p⟩
  by_cases hlt : i < n
  · refine .inr ⟨hlt, Pv (i + 1), fun σ' H' p' => ⟨n - (i + 1), by omega, rfl, hlt, p'⟩, fun x H' y => ?_⟩
    obtain ⟨e, y⟩ := y
    subst e y
    exact hs i σ _ hlt p
  · have e : i = n := by omega
    subst e
    exact .inl ⟨Nat.le_refl _, hd σ H p⟩
/-- while, by a word and a measure of the state -/
theorem while_by {c : TT} {tb : TS} {D : Ends} {σ : St} {H : Hp} (Pv : St → Hp → Prop) (μ : St → Hp → Nat) (h0 : Pv σ H)
    (hs : ∀ σ H, Pv σ H → c σ H fun b H1 => if b = true then tb { D with nx := fun σ' H' => Pv σ' H' ∧ μ σ' H' < μ σ H, ct := fun σ' H' => Pv σ' H' ∧ μ σ' H' < μ σ H, bk := D.nx } σ H1 else D.nx σ H1)
    (mono : ∀ σ H Q Q', (∀ b H1, Q b H1 → Q' b H1) → c σ H Q → c σ H Q') : tWhile c tb D σ H := by
  refine ⟨fun m σ H => m = μ σ H ∧ Pv σ H, ⟨_, rfl, h0⟩, ?_⟩
  rintro m σ H ⟨rfl, p⟩
  refine mono σ H _ _ (fun b H1 q => ?_) (hs σ H p)
  cases b with
  | true => exact ⟨_, fun σ' H' ⟨p', l⟩ => ⟨_, l, rfl, p'⟩, q⟩
  | false => exact q
end L2

namespace L2
open PySem PySem.Spec PyProof.Rows

abbrev R2 := V → V → Hp → VK → Prop
/-- a two-place operation on values: f is binaryOp op, inplaceOp op or compareOp op -/
def OpR (X : Cx) (f : Value → Value → Sem Value) (r : R2) : Prop :=
  ∀ (pins : List (Addr × Obj)) (s : Shared) (σ : St) (H : Hp) (x y : V) (v u : Value) (Q : VK), Inv X pins σ H s → RelV x v → RelV y u → r x y H Q →
    wpAny (model X.prog X.w) X.A (f v u) (EP X pins σ Q) X.xe s
/-- a one-place operation -/
def UnR (X : Cx) (f : Value → Sem Value) (r : V → Hp → VK → Prop) : Prop :=
  ∀ (pins : List (Addr × Obj)) (s : Shared) (σ : St) (H : Hp) (x : V) (v : Value) (Q : VK), Inv X pins σ H s → RelV x v → r x H Q →
    wpAny (model X.prog X.w) X.A (f v) (EP X pins σ Q) X.xe s
/-- a call of a value that is known (a builtin, a type) with values -/
def CallR (X : Cx) (f : Value) (r : List V → Hp → VK → Prop) : Prop :=
  ∀ (pins : List (Addr × Obj)) (s : Shared) (σ : St) (H : Hp) (xs : List V) (us : List Value) (Q : VK), Inv X pins σ H s → Vals xs us → r xs H Q →
    wpAny (model X.prog X.w) X.A (call f us) (EP X pins σ Q) X.xe s
/-- a value's truth -/
def TruR (X : Cx) (r : V → Hp → (Bool → Hp → Prop) → Prop) : Prop :=
  ∀ (pins : List (Addr × Obj)) (s : Shared) (σ : St) (H : Hp) (x : V) (v : Value) (Q : Bool → Hp → Prop), Inv X pins σ H s → RelV x v → r x H Q →
    wpAny (model X.prog X.w) X.A (truthy v) (TP X pins σ Q) X.xe s

def tOp (r : R2) (ta tb : TE) : TE := fun σ H Q => ta σ H fun x H1 => tb σ H1 fun y H2 => r x y H2 Q
def tUn (r : V → Hp → VK → Prop) (ta : TE) : TE := fun σ H Q => ta σ H fun x H1 => r x H1 Q
/-- ints in, under C, and a value out -/
def rI (C : Int → Int → Prop) (g : Int → Int → V) : R2 := fun x y H Q => ∃ i j, x = .int i ∧ y = .int j ∧ C i j ∧ Q (g i j) H
def rI0 (g : Int → Int → V) : R2 := fun x y H Q => ∃ i j, x = .int i ∧ y = .int j ∧ Q (g i j) H
def rU (g : Int → V) : V → Hp → VK → Prop := fun x H Q => ∃ i, x = .int i ∧ Q (g i) H

section
variable {X : Cx} {a b c : Expr} {ta tb tc : TE} {pos : Pos}

theorem binT (ha : PE X a ta) (hb : PE X b tb) {pins : List (Addr × Obj)} {s : Shared} {σ : St} {H : Hp} {R : V → V → Hp → Prop} (I : Inv X pins σ H s)
    (h : ta σ H fun x H1 => tb σ H1 fun y H2 => R x y H2) {Q : Value → Shared → Prop} {f : Value → Value → Sem Value}
    (hf : ∀ v u s2 x y H2, Inv X pins σ H2 s2 → RelV x v → RelV y u → R x y H2 → wpAny (model X.prog X.w) X.A (f v u) Q X.xe s2) :
    wpAny (model X.prog X.w) X.A (eval a X.env) (fun v s₁ => wpAny (model X.prog X.w) X.A (eval b X.env) (fun u s₂ => wpAny (model X.prog X.w) X.A (f v u) Q X.xe s₂) X.xe s₁) X.xe s := by
  refine thn (ha pins s σ H _ I h) fun v s1 ⟨x, H1, I1, r1, q1⟩ => ?_
  refine thn (hb pins s1 σ H1 _ I1 q1) fun u s2 ⟨y, H2, I2, r2, q2⟩ => ?_
  exact hf v u s2 x y H2 I2 r1 r2 q2

theorem pe_op {op : Operator} {r : R2} (ho : OpR X (binaryOp op) r) (ha : PE X a ta) (hb : PE X b tb) : PE X (.BinOp a op b pos) (tOp r ta tb) := by
  intro pins s σ H Q I h
  exact wpAny_BinOp (binT ha hb I h fun v u s2 x y H2 I2 rx ry q => ho pins s2 σ H2 x y v u Q I2 rx ry q)
theorem pe_un {op : UnaryOp} {r : V → Hp → VK → Prop} (ho : UnR X (unaryOp op) r) (ha : PE X a ta) : PE X (.UnaryOp op a pos) (tUn r ta) := by
  intro pins s σ H Q I h
  exact UnaryOp_ (thn (ha pins s σ H _ I h) fun v s1 ⟨x, H1, I1, r1, q1⟩ => ho pins s1 σ H1 x v Q I1 r1 q1)
/-- a op= e at a name: the name's slot i -/
theorem augR {op : Operator} {r : R2} (ho : OpR X (inplaceOp op) r) {pins : List (Addr × Obj)} {s : Shared} {σ : St} {H : Hp} {x y : V} {v u : Value} {Q : VK} (I : Inv X pins σ H s)
    (rx : RelV x v) (ry : RelV y u) (q : r x y H Q) : wpAny (model X.prog X.w) X.A (inplaceOp op v u) (EP X pins σ Q) X.xe s := ho pins s σ H x y v u Q I rx ry q

/-! ### ints -/
theorem opI {f : Value → Value → Sem Value} {C : Int → Int → Prop} {g : Int → Int → Int}
    (rule : ∀ (i j : Int) (t u : Tok) (s : Shared) (Q : Value → Shared → Prop) (E : Value → Shared → Prop), C i j → Q (.int (g i j) s.toks) { s with toks := s.toks + 1 } → wpAny (model X.prog X.w) X.A (f (.int i t) (.int j u)) Q E s) :
    OpR X f (rI C fun i j => .int (g i j)) := by
  intro pins s σ H x y v u Q I rx ry h
  obtain ⟨i, j, rfl, rfl, hc, q⟩ := h
  obtain ⟨t, rfl⟩ := rx
  obtain ⟨t', rfl⟩ := ry
  exact rule i j t t' s _ _ hc ⟨.int (g i j), H, I.tok _, ⟨_, rfl⟩, q⟩
theorem opI0 {f : Value → Value → Sem Value} {g : Int → Int → Int}
    (rule : ∀ (i j : Int) (t u : Tok) (s : Shared) (Q : Value → Shared → Prop) (E : Value → Shared → Prop), Q (.int (g i j) s.toks) { s with toks := s.toks + 1 } → wpAny (model X.prog X.w) X.A (f (.int i t) (.int j u)) Q E s) :
    OpR X f (rI0 fun i j => .int (g i j)) := by
  intro pins s σ H x y v u Q I rx ry h
  obtain ⟨i, j, rfl, rfl, q⟩ := h
  obtain ⟨t, rfl⟩ := rx
  obtain ⟨t', rfl⟩ := ry
  exact rule i j t t' s _ _ ⟨.int (g i j), H, I.tok _, ⟨_, rfl⟩, q⟩
theorem opB0 {f : Value → Value → Sem Value} {g : Int → Int → Bool}
    (rule : ∀ (i j : Int) (t u : Tok) (s : Shared) (Q : Value → Shared → Prop) (E : Value → Shared → Prop), Q (.bool (g i j)) s → wpAny (model X.prog X.w) X.A (f (.int i t) (.int j u)) Q E s) :
    OpR X f (rI0 fun i j => .bl (g i j)) := by
  intro pins s σ H x y v u Q I rx ry h
  obtain ⟨i, j, rfl, rfl, q⟩ := h
  obtain ⟨t, rfl⟩ := rx
  obtain ⟨t', rfl⟩ := ry
  exact rule i j t t' s _ _ ⟨.bl (g i j), H, I, rfl, q⟩

def CDiv (i j : Int) : Prop := 0 < j ∧ j < 1073741824
def CDivN (i j : Int) : Prop := j ≠ 0 ∧ j.natAbs < 1073741824
def CPow (i j : Int) : Prop := 0 ≤ j ∧ j ≤ 1000000 ∧ i.natAbs < 2 ^ 64
def CMul (i j : Int) : Prop := (-(2 ^ 64) < i ∧ i < 2 ^ 64) ∨ (-(2 ^ 64) < j ∧ j < 2 ^ 64)
theorem CMul.ok {i j : Int} (h : CMul i j) : IntMulOk i j := by
  rcases h with ⟨h1, h2⟩ | ⟨h1, h2⟩
  · exact .of_left (intBits_le_64 h1 h2)
  · exact .of_right (intBits_le_64 h1 h2)
theorem two_pow_nn (k : Nat) : (0 : Int) ≤ 2 ^ k := by
  rw [two_pow_cast]
  exact Int.natCast_nonneg _

theorem op_add : OpR X (binaryOp .Add) (rI0 fun i j => .int (i + j)) := opI0 fun _ _ _ _ _ _ _ q => add_int q
theorem op_sub : OpR X (binaryOp .Sub) (rI0 fun i j => .int (i - j)) := opI0 fun _ _ _ _ _ _ _ q => sub_int q
theorem op_mul : OpR X (binaryOp .Mult) (rI CMul fun i j => .int (i * j)) := opI fun _ _ _ _ _ _ _ hc q => mul_int q hc.ok
/-- // by a positive divisor -/
theorem op_fdiv : OpR X (binaryOp .FloorDiv) (rI CDiv fun i j => .int (i / j)) := opI fun i j _ _ _ _ _ hc q => by
  have h1 : (0 : Int) < j := hc.1
  have h2 : j < 1073741824 := hc.2
  exact floordiv_int (by omega) (by rw [Int.fdiv_eq_ediv_of_nonneg i (by omega)]; exact q) (.inl (PyProof.noPylong_small (by omega)))
theorem op_fdivN : OpR X (binaryOp .FloorDiv) (rI CDivN fun i j => .int (i.fdiv j)) := opI fun _ _ _ _ _ _ _ hc q => floordiv_int hc.1 q (.inl (PyProof.noPylong_small hc.2))
/-- % by a positive divisor of any size -/
theorem op_mod : OpR X (binaryOp .Mod) (rI (fun _ j => 0 < j) fun i j => .int (i % j)) := opI fun i j _ _ _ _ _ hc q => by
  have h1 : (0 : Int) < j := hc
  exact mod_int' (by omega) (by rw [Int.fmod_eq_emod_of_nonneg i (by omega)]; exact q)
theorem op_modN : OpR X (binaryOp .Mod) (rI (fun _ j => j ≠ 0) fun i j => .int (i.fmod j)) := opI fun _ _ _ _ _ _ _ hc q => mod_int' hc q
theorem op_pow : OpR X (binaryOp .Pow) (rI CPow fun i j => .int (i ^ j.toNat)) := opI fun _ _ _ _ _ _ _ hc q => pow_int_small hc.1 hc.2.1 hc.2.2 q
theorem op_shl : OpR X (binaryOp .LShift) (rI CPow fun i j => .int (i * 2 ^ j.toNat)) := opI fun _ _ _ _ _ _ _ hc q => lshift_int_small hc.1 hc.2.1 hc.2.2 q
theorem op_shr : OpR X (binaryOp .RShift) (rI (fun _ j => 0 ≤ j) fun i j => .int (i / 2 ^ j.toNat)) := opI fun i j _ _ _ _ _ hc q =>
  rshift_int hc (by rw [Int.fdiv_eq_ediv_of_nonneg i (two_pow_nn _)]; exact q)
theorem op_and : OpR X (binaryOp .BitAnd) (rI0 fun i j => .int (Builtin.bitAnd i j)) := opI0 fun _ _ _ _ _ _ _ q => and_int q
theorem op_or : OpR X (binaryOp .BitOr) (rI0 fun i j => .int (Builtin.bitOr i j)) := opI0 fun _ _ _ _ _ _ _ q => or_int q
theorem op_xor : OpR X (binaryOp .BitXor) (rI0 fun i j => .int (Builtin.bitXor i j)) := opI0 fun _ _ _ _ _ _ _ q => xor_int q

theorem iop_add : OpR X (inplaceOp .Add) (rI0 fun i j => .int (i + j)) := opI0 fun _ _ _ _ _ _ _ q => iadd_int q
theorem iop_sub : OpR X (inplaceOp .Sub) (rI0 fun i j => .int (i - j)) := opI0 fun _ _ _ _ _ _ _ q => isub_int q
theorem iop_mul : OpR X (inplaceOp .Mult) (rI CMul fun i j => .int (i * j)) := opI fun _ _ _ _ _ _ _ hc q => imul_int q hc.ok
theorem iop_fdiv : OpR X (inplaceOp .FloorDiv) (rI CDiv fun i j => .int (i / j)) := opI fun i j _ _ _ _ _ hc q => by
  have h1 : (0 : Int) < j := hc.1
  have h2 : j < 1073741824 := hc.2
  exact ifloordiv_int (by omega) (by rw [Int.fdiv_eq_ediv_of_nonneg i (by omega)]; exact q) (.inl (PyProof.noPylong_small (by omega)))
theorem iop_mod : OpR X (inplaceOp .Mod) (rI (fun _ j => 0 < j) fun i j => .int (i % j)) := opI fun i j _ _ _ _ _ hc q => by
  have h1 : (0 : Int) < j := hc
  exact imod_int (by omega) (by rw [Int.fmod_eq_emod_of_nonneg i (by omega)]; exact q)
theorem iop_shl : OpR X (inplaceOp .LShift) (rI CPow fun i j => .int (i * 2 ^ j.toNat)) := opI fun _ _ _ _ _ _ _ hc q => ilshift_int_small hc.1 hc.2.1 hc.2.2 q
theorem iop_shr : OpR X (inplaceOp .RShift) (rI (fun _ j => 0 ≤ j) fun i j => .int (i / 2 ^ j.toNat)) := opI fun i j _ _ _ _ _ hc q =>
  irshift_int hc (by rw [Int.fdiv_eq_ediv_of_nonneg i (two_pow_nn _)]; exact q)
theorem iop_and : OpR X (inplaceOp .BitAnd) (rI0 fun i j => .int (Builtin.bitAnd i j)) := opI0 fun _ _ _ _ _ _ _ q => iand_int q
theorem iop_or : OpR X (inplaceOp .BitOr) (rI0 fun i j => .int (Builtin.bitOr i j)) := opI0 fun _ _ _ _ _ _ _ q => ior_int q
theorem iop_xor : OpR X (inplaceOp .BitXor) (rI0 fun i j => .int (Builtin.bitXor i j)) := opI0 fun _ _ _ _ _ _ _ q => ixor_int q

theorem unI {f : Value → Sem Value} {g : Int → Int}
    (rule : ∀ (i : Int) (t : Tok) (s : Shared) (Q : Value → Shared → Prop) (E : Value → Shared → Prop), Q (.int (g i) s.toks) { s with toks := s.toks + 1 } → wpAny (model X.prog X.w) X.A (f (.int i t)) Q E s) :
    UnR X f (rU fun i => .int (g i)) := by
  intro pins s σ H x v Q I rx h
  obtain ⟨i, rfl, q⟩ := h
  obtain ⟨t, rfl⟩ := rx
  exact rule i t s _ _ ⟨.int (g i), H, I.tok _, ⟨_, rfl⟩, q⟩
theorem un_neg : UnR X (unaryOp .USub) (rU fun i => .int (-i)) := unI fun _ _ _ _ _ q => neg_int q
theorem un_inv : UnR X (unaryOp .Invert) (rU fun i => .int (Builtin.bitNot i)) := unI fun _ _ _ _ _ q => invert_int q

/-! ### bools among ints: n += (a < b) -/
theorem op_add_ib : OpR X (binaryOp .Add) (fun x y H Q => ∃ i k, x = .int i ∧ y = .bl k ∧ Q (.int (i + b2i k)) H) := by
  intro pins s σ H x y v u Q I rx ry h
  obtain ⟨i, k, rfl, rfl, q⟩ := h
  obtain ⟨t, rfl⟩ := rx
  cases ry
  exact add_int_bool ⟨.int (i + b2i k), H, I.tok _, ⟨_, rfl⟩, q⟩
end

/-! ### comparisons -/
/-- the scalars that == tells apart as data does -/
def scal : V → V → Bool
  | .non, .non => true | .non, .int _ => true | .int _, .non => true | .non, .bl _ => true | .bl _, .non => true | .non, .str _ => true | .str _, .non => true
  | .int _, .int _ => true | .bl _, .bl _ => true | .str _, .str _ => true | .byt _, .byt _ => true
  | .int _, .str _ => true | .str _, .int _ => true | .bl _, .str _ => true | .str _, .bl _ => true
  | _, _ => false
def rEq : R2 := fun x y H Q => scal x y = true ∧ Q (.bl (decide (x = y))) H
def rNe : R2 := fun x y H Q => scal x y = true ∧ Q (.bl (!decide (x = y))) H

theorem dec_int {i j : Int} : decide (V.int i = V.int j) = (i == j) := by
  rw [Bool.eq_iff_iff]
  simp
theorem dec_bl {i j : Bool} : decide (V.bl i = V.bl j) = (i == j) := by
  rw [Bool.eq_iff_iff]
  simp
theorem dec_str {i j : Str} : decide (V.str i = V.str j) = (i == j) := by
  rw [Bool.eq_iff_iff]
  simp
theorem dec_byt {i j : Array UInt8} : decide (V.byt i = V.byt j) = (i.toList == j.toList) := by
  rw [Bool.eq_iff_iff]
  cases i
  cases j
  simp

section
variable {X : Cx} {a b c : Expr} {ta tb tc : TE} {pos : Pos}
theorem fin_bl {pins : List (Addr × Obj)} {σ : St} {H : Hp} {s : Shared} {Q : VK} {k k' : Bool} (I : Inv X pins σ H s) (q : Q (.bl k) H) (e : k = k') : EP X pins σ Q (.bool k') s := by
  subst e
  exact ⟨.bl k, H, I, rfl, q⟩
theorem op_eq : OpR X (compareOp .Eq) rEq := by
  intro pins s σ H x y v u Q I rx ry h
  obtain ⟨hs, q⟩ := h
  cases x with
  | non =>
    cases rx
    cases y with
    | non => cases ry; exact PySem.EqNone.eq_none_none (fin_bl I q (by simp))
    | bl j => cases ry; exact PySem.EqNone.eq_none_bool (fin_bl I q (by simp))
    | int j => obtain ⟨t', rfl⟩ := ry; exact PySem.EqNone.eq_none_int (fin_bl I q (by simp))
    | str j => obtain ⟨t', rfl⟩ := ry; exact PySem.EqNone.eq_none_str (fin_bl I q (by simp))
    | _ => exact absurd (show false = true from hs) Bool.false_ne_true
  | bl i =>
    cases rx
    cases y with
    | non => cases ry; exact PySem.EqNone.eq_bool_none (fin_bl I q (by simp))
    | bl j => cases ry; exact eq_bool (fin_bl I q dec_bl)
    | str j => obtain ⟨t', rfl⟩ := ry; exact PySem.EqMixed.eq_bool_str (fin_bl I q (by simp))
    | _ => exact absurd (show false = true from hs) Bool.false_ne_true
  | int i =>
    obtain ⟨t, rfl⟩ := rx
    cases y with
    | non => cases ry; exact PySem.EqNone.eq_int_none (fin_bl I q (by simp))
    | int j => obtain ⟨t', rfl⟩ := ry; exact eq_int (fin_bl I q dec_int)
    | str j => obtain ⟨t', rfl⟩ := ry; exact PySem.EqMixed.eq_int_str (fin_bl I q (by simp))
    | _ => exact absurd (show false = true from hs) Bool.false_ne_true
  | str i =>
    obtain ⟨t, rfl⟩ := rx
    cases y with
    | non => cases ry; exact PySem.EqNone.eq_str_none (fin_bl I q (by simp))
    | bl j => cases ry; exact PySem.EqMixed.eq_str_bool (fin_bl I q (by simp))
    | int j => obtain ⟨t', rfl⟩ := ry; exact PySem.EqMixed.eq_str_int (fin_bl I q (by simp))
    | str j => obtain ⟨t', rfl⟩ := ry; exact eq_str (fin_bl I q dec_str)
    | _ => exact absurd (show false = true from hs) Bool.false_ne_true
  | byt i =>
    obtain ⟨t, rfl⟩ := rx
    cases y with
    | byt j => obtain ⟨t', rfl⟩ := ry; exact PySem.W.eq_bytes (fin_bl I q dec_byt)
    | _ => exact absurd (show false = true from hs) Bool.false_ne_true
  | _ => cases y <;> exact absurd (show false = true from hs) Bool.false_ne_true
theorem op_ne : OpR X (compareOp .NotEq) rNe := by
  intro pins s σ H x y v u Q I rx ry h
  obtain ⟨hs, q⟩ := h
  cases x with
  | non =>
    cases rx
    cases y with
    | non => cases ry; exact PySem.EqNone.ne_none_none (fin_bl I q (by simp))
    | bl j => cases ry; exact PySem.EqNone.ne_none_bool (fin_bl I q (by simp))
    | int j => obtain ⟨t', rfl⟩ := ry; exact PySem.EqNone.ne_none_int (fin_bl I q (by simp))
    | str j => obtain ⟨t', rfl⟩ := ry; exact PySem.EqNone.ne_none_str (fin_bl I q (by simp))
    | _ => exact absurd (show false = true from hs) Bool.false_ne_true
  | bl i =>
    cases rx
    cases y with
    | non => cases ry; exact PySem.EqNone.ne_bool_none (fin_bl I q (by simp))
    | bl j => cases ry; exact ne_bool (fin_bl I q (congrArg not dec_bl))
    | str j => obtain ⟨t', rfl⟩ := ry; exact PySem.EqMixed.ne_bool_str (fin_bl I q (by simp))
    | _ => exact absurd (show false = true from hs) Bool.false_ne_true
  | int i =>
    obtain ⟨t, rfl⟩ := rx
    cases y with
    | non => cases ry; exact PySem.EqNone.ne_int_none (fin_bl I q (by simp))
    | int j => obtain ⟨t', rfl⟩ := ry; exact ne_int (fin_bl I q (congrArg not dec_int))
    | str j => obtain ⟨t', rfl⟩ := ry; exact PySem.EqMixed.ne_int_str (fin_bl I q (by simp))
    | _ => exact absurd (show false = true from hs) Bool.false_ne_true
  | str i =>
    obtain ⟨t, rfl⟩ := rx
    cases y with
    | non => cases ry; exact PySem.EqNone.ne_str_none (fin_bl I q (by simp))
    | bl j => cases ry; exact PySem.EqMixed.ne_str_bool (fin_bl I q (by simp))
    | int j => obtain ⟨t', rfl⟩ := ry; exact PySem.EqMixed.ne_str_int (fin_bl I q (by simp))
    | str j => obtain ⟨t', rfl⟩ := ry; exact ne_str (fin_bl I q (congrArg not dec_str))
    | _ => exact absurd (show false = true from hs) Bool.false_ne_true
  | byt i =>
    obtain ⟨t, rfl⟩ := rx
    cases y with
    | byt j => obtain ⟨t', rfl⟩ := ry; exact PySem.W.ne_bytes (fin_bl I q (congrArg not dec_byt))
    | _ => exact absurd (show false = true from hs) Bool.false_ne_true
  | _ => cases y <;> exact absurd (show false = true from hs) Bool.false_ne_true

theorem op_lt : OpR X (compareOp .Lt) (rI0 fun i j => .bl (decide (i < j))) := opB0 fun _ _ _ _ _ _ _ q => lt_int q
theorem op_le : OpR X (compareOp .LtE) (rI0 fun i j => .bl (decide (i ≤ j))) := opB0 fun _ _ _ _ _ _ _ q => le_int q
theorem op_gt : OpR X (compareOp .Gt) (rI0 fun i j => .bl (decide (j < i))) := opB0 fun _ _ _ _ _ _ _ q => gt_int q
theorem op_ge : OpR X (compareOp .GtE) (rI0 fun i j => .bl (decide (j ≤ i))) := opB0 fun _ _ _ _ _ _ _ q => ge_int q
theorem op_lt_str : OpR X (compareOp .Lt) (fun x y H Q => ∃ i j, x = .str i ∧ y = .str j ∧ Q (.bl (decide (i.cps.toList < j.cps.toList))) H) := by
  intro pins s σ H x y v u Q I rx ry h
  obtain ⟨i, j, rfl, rfl, q⟩ := h
  obtain ⟨t, rfl⟩ := rx
  obtain ⟨t', rfl⟩ := ry
  exact lt_str (fin_bl I q rfl)
/-- the one string within the other -/
theorem op_in_str : OpR X (compareOp .In) (fun x y H Q => ∃ i j, x = .str i ∧ y = .str j ∧ Q (.bl (!(Builtin.Str.occurrences j i 0 j.length 1).isEmpty)) H) := by
  intro pins s σ H x y v u Q I rx ry h
  obtain ⟨i, j, rfl, rfl, q⟩ := h
  obtain ⟨t, rfl⟩ := rx
  obtain ⟨t', rfl⟩ := ry
  exact in_str (fin_bl I q rfl)

/-- is None, is not None: the right side a value none -/
theorem op_isN : OpR X (compareOp .Is) (fun x y H Q => y = .non ∧ Q (.bl (decide (x = .non))) H) := by
  intro pins s σ H x y v u Q I rx ry h
  obtain ⟨rfl, q⟩ := h
  cases ry
  refine is_none_gen (fin_bl I q ?_)
  cases x <;> first
    | (cases rx; rfl)
    | (obtain ⟨t, rfl⟩ := rx; rfl)
theorem op_notN : OpR X (compareOp .IsNot) (fun x y H Q => y = .non ∧ Q (.bl (!decide (x = .non))) H) := by
  intro pins s σ H x y v u Q I rx ry h
  obtain ⟨rfl, q⟩ := h
  cases ry
  refine isnot_none_gen (fin_bl I q ?_)
  cases x <;> first
    | (cases rx; rfl)
    | (obtain ⟨t, rfl⟩ := rx; rfl)

theorem op_notin_str : OpR X (compareOp .NotIn) (fun x y H Q => ∃ i j, x = .str i ∧ y = .str j ∧ Q (.bl (!(!(Builtin.Str.occurrences j i 0 j.length 1).isEmpty))) H) := by
  intro pins s σ H x y v u Q I rx ry h
  obtain ⟨i, j, rfl, rfl, q⟩ := h
  obtain ⟨t, rfl⟩ := rx
  obtain ⟨t', rfl⟩ := ry
  exact notIn_str (fin_bl I q rfl)
/-- is, is not of two objects that are tracked lists or instances -/
def isObj : HO → Bool
  | .lst _ => true
  | .ins _ _ _ => true
  | _ => false
theorem obj_there {pins : List (Addr × Obj)} {s : Shared} {σ : St} {H : Hp} {a : Addr} {o : HO} (I : Inv X pins σ H s) (h : H a = some o) (p : isObj o = true) : ∃ ob, s.heap.get? a = some ob ∧ ob.cls ≠ .type "tuple" := by
  cases o with
  | lst xs =>
    obtain ⟨_, its, n, _, e⟩ : xs.length ≤ sizeLine ∧ ∃ (its : List Value) (n : Nat), Vals xs its ∧ s.heap.get? a = some { cls := .type "list", data := .seq its.toArray n } := I.hok a _ h
    exact ⟨_, e, (by show Value.type "list" ≠ .type "tuple"; decide +kernel)⟩
  | ins C dx fs =>
    have x := I.hok a _ h
    obtain ⟨_, _, _, e, _⟩ := x
    exact ⟨_, e, (by show Value.ref C ≠ .type "tuple"; exact fun z => by cases z)⟩
  | _ => exact absurd (show false = true from p) Bool.false_ne_true
theorem op_is_ref : OpR X (compareOp .Is) (fun x y H Q => ∃ a b oa ob, x = .ref a ∧ y = .ref b ∧ H a = some oa ∧ isObj oa = true ∧ H b = some ob ∧ isObj ob = true ∧ Q (.bl (decide (a = b))) H) := by
  intro pins s σ H x y v u Q I rx ry h
  obtain ⟨a, b, oa, ob, rfl, rfl, ha, pa, hb, pb, q⟩ := h
  cases rx
  cases ry
  obtain ⟨o1, e1, n1⟩ := obj_there I ha pa
  obtain ⟨o2, e2, _⟩ := obj_there I hb pb
  by_cases z : a = b
  · subst z
    exact wpAny_is_ref_self (fin_bl I q (by simp))
  · exact wpAny_is_ref_other z e1 e2 n1 (fin_bl I q (by simp [z]))
theorem op_isnot_ref : OpR X (compareOp .IsNot) (fun x y H Q => ∃ a b oa ob, x = .ref a ∧ y = .ref b ∧ H a = some oa ∧ isObj oa = true ∧ H b = some ob ∧ isObj ob = true ∧ Q (.bl (!decide (a = b))) H) := by
  intro pins s σ H x y v u Q I rx ry h
  obtain ⟨a, b, oa, ob, rfl, rfl, ha, pa, hb, pb, q⟩ := h
  cases rx
  cases ry
  obtain ⟨o1, e1, n1⟩ := obj_there I ha pa
  obtain ⟨o2, e2, _⟩ := obj_there I hb pb
  by_cases z : a = b
  · subst z
    exact wpAny_isNot_ref_self (fin_bl I q (by simp))
  · exact wpAny_isNot_ref_other z e1 e2 n1 (fin_bl I q (by simp [z]))

/-- two rules for one operation: by cases -/
theorem OpR.or {f : Value → Value → Sem Value} {r r' : R2} (h : OpR X f r) (h' : OpR X f r') : OpR X f (fun x y H Q => r x y H Q ∨ r' x y H Q) := by
  intro pins s σ H x y v u Q I rx ry q
  rcases q with q | q
  · exact h pins s σ H x y v u Q I rx ry q
  · exact h' pins s σ H x y v u Q I rx ry q

theorem nomark (b : Expr) {op : CmpOp} (h : op ≠ .In := by decide) (h2 : op ≠ .NotIn := by decide) : behindInMarks op b = false := by
  have e1 : (op == CmpOp.In) = false := by cases op <;> first | rfl | exact absurd rfl h
  have e2 : (op == CmpOp.NotIn) = false := by cases op <;> first | rfl | exact absurd rfl h2
  cases b <;> simp [behindInMarks, e1, e2]
/-- a comparison as a value; hm: nomark b, or (for in, not in) by with_unfolding_all rfl -/
theorem pe_cmpR {op : CmpOp} {r : R2} (ho : OpR X (compareOp op) r) (ha : PE X a ta) (hb : PE X b tb) (hm : behindInMarks op b = false) : PE X (.Compare a [op] [b] pos) (tOp r ta tb) := by
  intro pins s σ H Q I h
  exact wpAny_Compare1 (binT ha hb I h fun v u s2 x y H2 I2 rx ry q => ho pins s2 σ H2 x y v u Q I2 rx ry q) hm
/-- a reading of a value as a test -/
def tTest (t : TE) : TT := fun σ H Q => t σ H fun x H' => ∃ k, x = .bl k ∧ Q k H'
theorem pt_cmpR {op : CmpOp} {r : R2} (ho : OpR X (compareOp op) r) (ha : PE X a ta) (hb : PE X b tb) (hm : behindInMarks op b = false) : PT X (.Compare a [op] [b] pos) (tTest (tOp r ta tb)) := by
  intro pins s σ H Q I h
  refine wpAny_isTrue_Compare1 (thn (ha pins s σ H _ I h) fun v s1 ⟨x, H1, I1, r1, q1⟩ => thn (hb pins s1 σ H1 _ I1 q1) fun u s2 ⟨y, H2, I2, r2, q2⟩ =>
    thn (ho pins s2 σ H2 x y v u _ I2 r1 r2 q2) fun c s3 ⟨z, H3, I3, r3, k, e, q3⟩ => ?_) hm
  subst e
  cases r3
  exact wpAny_truthy_bool ⟨H3, I3, q3⟩
/-- a op1 b op2 c -/
def tChain (r r' : R2) (ta tb tc : TE) : TE := fun σ H Q => ta σ H fun x H1 => tb σ H1 fun y H2 => r x y H2 fun z H3 => ∃ k, z = .bl k ∧
  (if k = true then tc σ H3 fun w' H4 => r' y w' H4 Q else Q (.bl false) H3)
theorem pe_chain {op op' : CmpOp} {r r' : R2} (ho : OpR X (compareOp op) r) (ho' : OpR X (compareOp op') r') (ha : PE X a ta) (hb : PE X b tb) (hc : PE X c tc)
    (hm : lastMarks [op, op'] [b, c] = false := by with_unfolding_all rfl) : PE X (.Compare a [op, op'] [b, c] pos) (tChain r r' ta tb tc) := by
  intro pins s σ H Q I h
  refine Compare_chain (thn (ha pins s σ H _ I h) fun v s1 ⟨x, H1, I1, r1, q1⟩ => chain_link (thn (hb pins s1 σ H1 _ I1 q1) fun u s2 ⟨y, H2, I2, r2, q2⟩ =>
    thn (ho pins s2 σ H2 x y v u _ I2 r1 r2 q2) fun d s3 ⟨z, H3, I3, r3, k, e, q3⟩ => ?_)) hm
  subst e
  cases r3
  refine wpAny_truthy_bool ?_
  cases k with
  | false => exact ite_ff ⟨.bl false, H3, I3, rfl, q3⟩
  | true => exact ite_tt (chain_last (thn (hc pins s3 σ H3 _ I3 q3) fun w' s4 ⟨z', H4, I4, r4, q4⟩ => ho' pins s4 σ H4 y z' u w' Q I4 r2 r4 q4))
theorem pt_chain {op op' : CmpOp} {r r' : R2} (ho : OpR X (compareOp op) r) (ho' : OpR X (compareOp op') r') (ha : PE X a ta) (hb : PE X b tb) (hc : PE X c tc)
    (hm : lastMarks [op, op'] [b, c] = false := by with_unfolding_all rfl) : PT X (.Compare a [op, op'] [b, c] pos) (tTest (tChain r r' ta tb tc)) := by
  intro pins s σ H Q I h
  refine isTrue_chain (thn (ha pins s σ H _ I h) fun v s1 ⟨x, H1, I1, r1, q1⟩ => test_link (thn (hb pins s1 σ H1 _ I1 q1) fun u s2 ⟨y, H2, I2, r2, q2⟩ =>
    thn (ho pins s2 σ H2 x y v u _ I2 r1 r2 q2) fun d s3 ⟨z, H3, I3, r3, k, e, q3⟩ => ?_)) hm
  subst e
  cases r3
  refine wpAny_truthy_bool ?_
  cases k with
  | false =>
    obtain ⟨k', e', q'⟩ := q3
    cases e'
    exact ite_ff ⟨H3, I3, q'⟩
  | true =>
    refine ite_tt (test_last (thn (hc pins s3 σ H3 _ I3 q3) fun w' s4 ⟨z', H4, I4, r4, q4⟩ => thn (ho' pins s4 σ H4 y z' u w' _ I4 r2 r4 q4) fun d' s5 ⟨z2, H5, I5, r5, k2, e2, q5⟩ => ?_))
    subst e2
    cases r5
    exact wpAny_truthy_bool ⟨H5, I5, q5⟩

/-! ### truth -/
/-- a value's truth by the abstract heap -/
def TruV (K : PySem.W.Frag) (x : V) (H : Hp) (k : Bool) : Prop :=
  match x with
  | .non => k = false
  | .bl b => k = b
  | .int i => k = (i != 0)
  | .str y => y.length ≤ sizeLine ∧ k = ((y.length : Int) != 0)
  | .byt y => y.size ≤ sizeLine ∧ k = ((y.size : Int) != 0)
  | .ref p => (∃ xs, SqL K H p xs ∧ k = !xs.isEmpty) ∨ (∃ xs, SqT K H p xs ∧ k = !xs.isEmpty) ∨ ∃ kvs, H p = some (.dK kvs) ∧ k = !kvs.isEmpty
  | _ => False
theorem isEmpty_kv {κ : Type} {kvs : List (κ × V)} {vs : List (κ × Value)} (r : KV kvs vs) : (!vs.isEmpty) = !kvs.isEmpty := by
  cases r <;> rfl
theorem isEmpty_of {xs : List V} {its : List Value} (r : Vals xs its) : (!its.toArray.isEmpty) = !xs.isEmpty := by
  cases r <;> simp
theorem line63 : (sizeLine : Nat) < 2 ^ 63 := by rw [sizeLine_eq]; decide
theorem tru_ok : TruR X (fun x H Q => ∃ k, TruV X.K x H k ∧ Q k H) := by
  intro pins s σ H x v Q I rx h
  obtain ⟨k, e, q⟩ := h
  have hl := line63
  have hs : sizeLine = 16777216 := sizeLine_eq
  cases x with
  | non =>
    cases rx
    have e' : k = false := e
    subst e'
    exact truthy_none ⟨H, I, q⟩
  | bl b =>
    cases rx
    have e' : k = b := e
    subst e'
    exact wpAny_truthy_bool ⟨H, I, q⟩
  | int i =>
    obtain ⟨t, rfl⟩ := rx
    have e' : k = (i != 0) := e
    subst e'
    exact PySem.P.truthy_int ⟨H, I, q⟩
  | str y =>
    obtain ⟨t, rfl⟩ := rx
    obtain ⟨hy, e'⟩ : y.length ≤ sizeLine ∧ k = ((y.length : Int) != 0) := e
    subst e'
    exact PySem.P.truthy_str (by omega) ⟨H, I.tok _, q⟩
  | byt y =>
    obtain ⟨t, rfl⟩ := rx
    obtain ⟨hy, e'⟩ : y.size ≤ sizeLine ∧ k = ((y.size : Int) != 0) := e
    subst e'
    exact PySem.W.truthy_bytes (by omega) ⟨H, I.tok _, q⟩
  | ref p =>
    cases rx
    have e' : (∃ xs, SqL X.K H p xs ∧ k = !xs.isEmpty) ∨ (∃ xs, SqT X.K H p xs ∧ k = !xs.isEmpty) ∨ ∃ kvs, H p = some (.dK kvs) ∧ k = !kvs.isEmpty := e
    rcases e' with ⟨xs, hx, e'⟩ | ⟨xs, hx, e'⟩ | ⟨kvs, hx, e'⟩
    · subst e'
      obtain ⟨its, r, pl, hz⟩ := I.list hx
      have hlen := r.length
      exact wpAny_truthy_list pl.isList (by simp only [List.size_toArray]; omega) ⟨H, I.tok _, by rw [isEmpty_of r]; exact q⟩
    · subst e'
      obtain ⟨its, r, pl, hz⟩ := I.tuple hx
      have hlen := r.length
      exact truthy_tuple pl (by simp only [List.size_toArray]; omega) ⟨H, I.tok _, by rw [isEmpty_of r]; exact q⟩
    · subst e'
      obtain ⟨hz, hS, vs, r, m⟩ : kvs.length ≤ sizeLine ∧ (p == sysModules) = false ∧ ∃ vs, KV kvs vs ∧ s.heap.DictOf (mixKind X.prog X.w) p vs := I.hok p _ hx
      have hlen : kvs.length = vs.length := Paired.length r
      exact wpAny_truthy_dict hS m (by omega) ⟨H, I.tok _, by rw [isEmpty_kv r]; exact q⟩
  | _ => exact (show False from e).elim
/-- any expression whose test is its value's truth (a name, a call, a subscript, a field ..: he by fun _ => rfl) -/
theorem pt_truth (ha : PE X a ta) (he : ∀ whole, isTrue a X.env whole = (do let v ← whole; standAt a.pos; holding [v] (truthy v))) :
    PT X a (fun σ H Q => ta σ H fun x H' => ∃ k, TruV X.K x H' k ∧ Q k H') := by
  intro pins s σ H Q I h
  exact isTrue_plain (thn (ha pins s σ H _ I h) fun v s1 ⟨x, H1, I1, r1, q1⟩ => tru_ok pins s1 σ H1 x v Q I1 r1 q1) (he _)

/-! ### strs and bytes -/
theorem pe_byt {x : List UInt8} {k : Nat} : PE X (.Constant (.bytes x) k pos) (fun _ H Q => Q (.byt x.toArray) H) := fun _ _ _ H _ I h => PySem.W.Constant_bytes ⟨.byt x.toArray, H, I.tok _, ⟨_, rfl⟩, h⟩
theorem op_add_str : OpR X (binaryOp .Add) (fun x y H Q => ∃ i j, x = .str i ∧ y = .str j ∧ i.length + j.length ≤ sizeLine ∧ Q (.str (i ++ j)) H) := by
  intro pins s σ H x y v u Q I rx ry h
  obtain ⟨i, j, rfl, rfl, hz, q⟩ := h
  obtain ⟨t, rfl⟩ := rx
  obtain ⟨t', rfl⟩ := ry
  exact add_str (fun t' tk => ⟨.str (i ++ j), H, I.tok _, ⟨_, rfl⟩, q⟩) hz
theorem iop_add_str : OpR X (inplaceOp .Add) (fun x y H Q => ∃ i j, x = .str i ∧ y = .str j ∧ i.length + j.length ≤ sizeLine ∧ Q (.str (i ++ j)) H) := by
  intro pins s σ H x y v u Q I rx ry h
  obtain ⟨i, j, rfl, rfl, hz, q⟩ := h
  obtain ⟨t, rfl⟩ := rx
  obtain ⟨t', rfl⟩ := ry
  exact iadd_str (fun t' tk => ⟨.str (i ++ j), H, I.tok _, ⟨_, rfl⟩, q⟩) hz
theorem op_add_byt : OpR X (binaryOp .Add) (fun x y H Q => ∃ i j, x = .byt i ∧ y = .byt j ∧ i.size + j.size ≤ 16777216 ∧ Q (.byt (i ++ j)) H) := by
  intro pins s σ H x y v u Q I rx ry h
  obtain ⟨i, j, rfl, rfl, hz, q⟩ := h
  obtain ⟨t, rfl⟩ := rx
  obtain ⟨t', rfl⟩ := ry
  exact PySem.W.KBy.add_bytes hz (fun t' tk => ⟨.byt (i ++ j), H, I.tok _, ⟨_, rfl⟩, q⟩)

def PlainIxT (b : Expr) : Prop := ∀ o i, subscripted b false o i = operate [o, i] (getItem o i)
/-- s[i], 0 ≤ i < len -/
theorem pe_item_str (ha : PE X a ta) (hb : PE X b tb) (hs : PlainIxT b) :
    PE X (.Subscript a b pos) (tOp (fun x y H Q => ∃ z i c, x = .str z ∧ y = .int i ∧ 0 ≤ i ∧ i < 2 ^ 63 ∧ i < z.length ∧ z.cps[i.toNat]? = some c ∧ Q (.str ⟨#[c]⟩) H) ta tb) := by
  intro pins s σ H Q I h
  refine Subscript_ (binT ha hb I h fun v u s2 x y H2 I2 rx ry q => ?_)
  obtain ⟨z, i, c, rfl, rfl, h0, h63, h1, hc, q⟩ := q
  obtain ⟨t, rfl⟩ := rx
  obtain ⟨t', rfl⟩ := ry
  have e : seqIndex? i z.length = some i.toNat := PySem.StrLaws.seqIndex_nonneg h0 h1
  exact tail_any (typeIs_str s2 z t) slot_str_getitem.lookup (getItem_str (c := c) (by
    have e1 : decide (i < -(2 ^ 63 : Int)) = false := decide_eq_false (by omega)
    have e2 : decide (i ≥ 2 ^ 63) = false := decide_eq_false (by omega)
    rw [e1, e2] <;> rfl) (by rw [e]; exact hc) ⟨.str ⟨#[c]⟩, H2, I2.tok _, ⟨_, rfl⟩, q⟩) (hs _ _)
/-- b[i], 0 ≤ i < len -/
theorem pe_item_byt (ha : PE X a ta) (hb : PE X b tb) (hs : PlainIxT b) :
    PE X (.Subscript a b pos) (tOp (fun x y H Q => ∃ (z : List UInt8) (i : Int), x = .byt z.toArray ∧ y = .int i ∧ z.length ≤ sizeLine ∧ 0 ≤ i ∧ i < z.length ∧ Q (.int ((z.getD i.toNat 0).toNat : Nat)) H) ta tb) := by
  intro pins s σ H Q I h
  refine Subscript_ (binT ha hb I h fun v u s2 x y H2 I2 rx ry q => ?_)
  obtain ⟨z, i, rfl, rfl, hz, h0, h1, q⟩ := q
  obtain ⟨t, rfl⟩ := rx
  obtain ⟨t', rfl⟩ := ry
  have hl : sizeLine = 16777216 := sizeLine_eq
  exact tail_any (PySem.W.typeIs_bytes s2 z.toArray t) PySem.W.FB.slot_bytes_getitem.lookup (PySem.W.getItem_bytes (by omega) h0 h1 ⟨.int ((z.getD i.toNat 0).toNat : Nat), H2, I2.tok _, ⟨_, rfl⟩, q⟩) (hs _ _)

/-! ### scalar builtins, by CallR -/
theorem vals1 {x : V} {us : List Value} (r : Vals [x] us) : ∃ u, us = [u] ∧ RelV x u := by
  cases r with
  | cons r1 r2 => cases r2; exact ⟨_, rfl, r1⟩
theorem vals2 {x y : V} {us : List Value} (r : Vals [x, y] us) : ∃ u w', us = [u, w'] ∧ RelV x u ∧ RelV y w' := by
  cases r with
  | cons r1 r2 =>
    cases r2 with
    | cons r3 r4 => cases r4; exact ⟨_, _, rfl, r1, r3⟩
theorem call_abs : CallR X (.builtin "abs") (fun xs H Q => ∃ i, xs = [.int i] ∧ Q (.int (if i < 0 then -i else i)) H) := by
  intro pins s σ H xs us Q I r h
  obtain ⟨i, rfl, q⟩ := h
  obtain ⟨u, rfl, t, rfl⟩ := vals1 r
  exact call_abs_int fun u tk => ⟨.int (if i < 0 then -i else i), H, I.tok _, ⟨_, rfl⟩, q⟩
theorem call_max2 (hc : X.calm = true) : CallR X (.builtin "max") (fun xs H Q => ∃ i j, xs = [.int i, .int j] ∧ Q (.int (if j > i then j else i)) H) := by
  intro pins s σ H xs us Q I r h
  obtain ⟨i, j, rfl, q⟩ := h
  obtain ⟨u, w', rfl, ⟨t, rfl⟩, ⟨t', rfl⟩⟩ := vals2 r
  refine max_two_ints (I.ok.hd hc) fun h' tk k => ⟨_, H, I.kept k, ?_, q⟩
  by_cases hj : j > i
  · rw [if_pos hj, if_pos hj]; exact ⟨_, rfl⟩
  · rw [if_neg hj, if_neg hj]; exact ⟨_, rfl⟩
theorem call_min2 (hc : X.calm = true) : CallR X (.builtin "min") (fun xs H Q => ∃ i j, xs = [.int i, .int j] ∧ Q (.int (if j < i then j else i)) H) := by
  intro pins s σ H xs us Q I r h
  obtain ⟨i, j, rfl, q⟩ := h
  obtain ⟨u, w', rfl, ⟨t, rfl⟩, ⟨t', rfl⟩⟩ := vals2 r
  refine min_two_ints (I.ok.hd hc) fun h' tk k => ⟨_, H, I.kept k, ?_, q⟩
  by_cases hj : j < i
  · rw [if_pos hj, if_pos hj]; exact ⟨_, rfl⟩
  · rw [if_neg hj, if_neg hj]; exact ⟨_, rfl⟩
theorem call_int1 : CallR X (.type "int") (fun xs H Q => (∃ i, xs = [.int i] ∧ Q (.int i) H) ∨ ∃ k, xs = [.bl k] ∧ Q (.int (if k then 1 else 0)) H) := by
  intro pins s σ H xs us Q I r h
  rcases h with ⟨i, rfl, q⟩ | ⟨k, rfl, q⟩
  · obtain ⟨u, rfl, t, rfl⟩ := vals1 r
    exact call_int_int ⟨.int i, H, I, ⟨_, rfl⟩, q⟩
  · obtain ⟨u, rfl, r1⟩ := vals1 r
    cases r1
    exact call_int_bool ⟨.int (if k then 1 else 0), H, I.tok _, ⟨_, rfl⟩, q⟩
theorem call_bool1 : CallR X (.type "bool") (fun xs H Q => (∃ i, xs = [.int i] ∧ Q (.bl (i != 0)) H) ∨ ∃ k, xs = [.bl k] ∧ Q (.bl k) H) := by
  intro pins s σ H xs us Q I r h
  rcases h with ⟨i, rfl, q⟩ | ⟨k, rfl, q⟩
  · obtain ⟨u, rfl, t, rfl⟩ := vals1 r
    exact call_bool_int ⟨.bl (i != 0), H, I, rfl, q⟩
  · obtain ⟨u, rfl, r1⟩ := vals1 r
    cases r1
    exact call_bool_bool ⟨.bl k, H, I, rfl, q⟩
theorem call_str_int : CallR X (.type "str") (fun xs H Q => ∃ i, xs = [.int i] ∧ i.natAbs.log2 < 1920 ∧ Q (.str (toString i)) H) := by
  intro pins s σ H xs us Q I r h
  obtain ⟨i, rfl, hz, q⟩ := h
  obtain ⟨u, rfl, t, rfl⟩ := vals1 r
  exact PySem.P.str_of_int hz ⟨.str _, H, I.tok _, ⟨_, rfl⟩, q⟩
theorem call_ord : CallR X (.builtin "ord") (fun xs H Q => ∃ x, xs = [.str x] ∧ x.length = 1 ∧ Q (.int (x.cps.getD 0 0 : Nat)) H) := by
  intro pins s σ H xs us Q I r h
  obtain ⟨x, rfl, hz, q⟩ := h
  obtain ⟨u, rfl, t, rfl⟩ := vals1 r
  exact ord_of_one hz ⟨.int _, H, I.tok _, ⟨_, rfl⟩, q⟩
theorem call_chr : CallR X (.builtin "chr") (fun xs H Q => ∃ i, xs = [.int i] ∧ 0 ≤ i ∧ i ≤ 1114111 ∧ Q (.str ⟨#[i.toNat]⟩) H) := by
  intro pins s σ H xs us Q I r h
  obtain ⟨i, rfl, h0, h1, q⟩ := h
  obtain ⟨u, rfl, t, rfl⟩ := vals1 r
  exact chr_of_range h0 h1 ⟨.str _, H, I.tok _, ⟨_, rfl⟩, q⟩
/-- len of a str, a bytes, a list, a tuple -/
def LenV (K : PySem.W.Frag) (x : V) (H : Hp) (n : Nat) : Prop :=
  match x with
  | .str y => y.length ≤ sizeLine ∧ n = y.length
  | .byt y => y.size ≤ sizeLine ∧ n = y.size
  | .ref p => (∃ xs, SqL K H p xs ∧ n = xs.length) ∨ ∃ xs, SqT K H p xs ∧ n = xs.length
  | _ => False
theorem call_len : CallR X (.builtin "len") (fun xs H Q => ∃ x n, xs = [x] ∧ LenV X.K x H n ∧ Q (.int n) H) := by
  intro pins s σ H xs us Q I r h
  obtain ⟨x, n, rfl, e, q⟩ := h
  obtain ⟨u, rfl, rx⟩ := vals1 r
  have hl := line63
  have hs : sizeLine = 16777216 := sizeLine_eq
  cases x with
  | str y =>
    obtain ⟨t, rfl⟩ := rx
    obtain ⟨hy, e'⟩ : y.length ≤ sizeLine ∧ n = y.length := e
    subst e'
    exact len_str (by omega) ⟨.int _, H, I.tok _, ⟨_, rfl⟩, q⟩
  | byt y =>
    obtain ⟨t, rfl⟩ := rx
    obtain ⟨hy, e'⟩ : y.size ≤ sizeLine ∧ n = y.size := e
    subst e'
    exact PySem.W.len_bytes (by omega) ⟨.int _, H, I.tok _, ⟨_, rfl⟩, q⟩
  | ref p =>
    cases rx
    have e' : (∃ xs, SqL X.K H p xs ∧ n = xs.length) ∨ ∃ xs, SqT X.K H p xs ∧ n = xs.length := e
    rcases e' with ⟨xs, hx, e'⟩ | ⟨xs, hx, e'⟩
    · subst e'
      obtain ⟨its, r', pl, hz⟩ := I.list hx
      have hlen := r'.length
      exact Calls.call_len_list pl.isList (by simp only [List.size_toArray]; omega) ⟨.int xs.length, H, I.tok _, ⟨_, by simp only [List.size_toArray]; rw [hlen]⟩, q⟩
    · subst e'
      obtain ⟨its, r', pl, hz⟩ := I.tuple hx
      have hlen := r'.length
      exact len_tuple pl (by simp only [List.size_toArray]; omega) ⟨.int xs.length, H, I.tok _, ⟨_, by simp only [List.size_toArray]; rw [hlen]⟩, q⟩
  | _ => exact (show False from e).elim
/-- divmod: a new tuple -/
theorem call_divmod : CallR X (.builtin "divmod") (fun xs H Q => ∃ i j, xs = [.int i, .int j] ∧ CDiv i j ∧ ∀ p, H p = none → Q (.ref p) (upd H p (.tup [.int (i / j), .int (i % j)]))) := by
  intro pins s σ H xs us Q I r h
  obtain ⟨i, j, rfl, ⟨h1, h2⟩, q⟩ := h
  obtain ⟨u, w', rfl, ⟨t, rfl⟩, ⟨t', rfl⟩⟩ := vals2 r
  refine divmod_int (by omega) ?_ (.inl (PyProof.noPylong_small (by omega)))
  rw [Int.fdiv_eq_ediv_of_nonneg i (by omega), Int.fmod_eq_emod_of_nonneg i (by omega)]
  have hn : H s.heap.objs.size = none := I.hok.fresh (Nat.le_refl _)
  refine ⟨.ref s.heap.objs.size, _, ?_, rfl, q _ hn⟩
  refine I.laid (fun b o e => Heap.get?_push_of_some _ e) (Nat.le_refl _) ⟨by simp only [List.length_cons, List.length_nil]; rw [sizeLine_eq]; decide, [.int (i / j) s.toks, .int (i % j) (s.toks + 1)], .cons ⟨_, rfl⟩ (.cons ⟨_, rfl⟩ .nil), ?_⟩
  exact ⟨_, Heap.get?_push_size s.heap rfl, rfl, 0, rfl⟩
end
end L2

namespace L2
open PySem PySem.Spec PyProof.Rows

/-! ### an instance, its attributes a map -/
structure ObjM (h : Heap) (x dx C : Addr) (mA : Str → Option Value) : Prop where
  obj : h.get? x = some (PySem.W.instObj C dx)
  ns : h.Ns1 dx mA
  ne : dx ≠ x

theorem lookIn_ns {h : Heap} {dx : Addr} {mA : Str → Option Value} (n : h.Ns1 dx mA) : ∃ od, h.get? dx = some od ∧ ∀ name, PySem.W.lookIn name od = some (mA name) := by
  obtain ⟨o, es, ep, ho, hd, hk, _, hm⟩ := n
  refine ⟨o, ho, fun name => ?_⟩
  have e := hm name
  unfold nsFind findBy at e
  rw [← Array.find?_toList] at e
  unfold PySem.W.lookIn
  rw [hd]
  dsimp only
  split
  · rename_i y q
    rw [q] at e
    exact congrArg some e
  · rename_i q
    rw [q] at e
    have a : es.toList.any (·.refKey) = false := by
      rw [List.any_eq_false]
      intro y hy
      obtain ⟨z, t, hkey⟩ := hk y (Array.mem_toList_iff.mp hy)
      simp [DictEntry.refKey, hkey]
    have a' : ¬ es.toList.any (·.refKey) = true := by rw [a]; exact Bool.false_ne_true
    rw [if_neg a']
    exact congrArg some e

theorem ObjM.look {h : Heap} {x dx C : Addr} {mA : Str → Option Value} (I : ObjM h x dx C mA) : ∃ od, PySem.W.InstAt h x (PySem.W.instObj C dx) C (some od) ∧ ∀ name, PySem.W.lookIn name od = some (mA name) :=
  let ⟨od, ho, hl⟩ := lookIn_ns I.ns
  ⟨od, ⟨I.obj, rfl, rfl, ho⟩, hl⟩

section
variable {prog : Program} {w : World} {A : Around} {E : Value → Shared → Prop} {s : Shared} {K : PySem.W.Frag} {x dx C f : Addr} {mA : Str → Option Value} {name : Str} {v : Value}

theorem get_map {expr : Bool} {Q : Value → Shared → Prop} (X : K.In s.heap) (I : ObjM s.heap x dx C mA) (hg : PySem.W.plainGet K C name = true) (hh : PySem.W.hasDictIn K C = true)
    (ha : PySem.W.findIn K (.ref C) name = some none) (hv : mA name = some v) (hv' : PySem.W.handedIn v = true) (h : Q v { s with toks := s.toks + 1 }) :
    wpAny (model prog w) A (getAttr (.ref x) name expr) Q E s := by
  obtain ⟨od, J, hl⟩ := I.look
  exact PySem.W.get_value X J (PySem.W.plainGet_of hg).1 (PySem.W.findObj_own hh ha rfl (by rw [hl, hv])) hv' h

theorem get_const {expr : Bool} {a : Value} {Q : Value → Shared → Prop} (X : K.In s.heap) (I : ObjM s.heap x dx C mA) (hg : PySem.W.plainGet K C name = true) (hh : PySem.W.hasDictIn K C = true)
    (ha : PySem.W.findIn K (.ref C) name = some (some a)) (hn : PySem.W.specialIn K a "__get__" = some none) (hc : PySem.W.copiedNames.contains name = false) (hv : mA name = none) (hv' : PySem.W.handedIn a = true)
    (h : Q a { s with toks := s.toks + 1 }) : wpAny (model prog w) A (getAttr (.ref x) name expr) Q E s := by
  obtain ⟨od, J, hl⟩ := I.look
  exact PySem.W.get_value X J (PySem.W.plainGet_of hg).1 (PySem.W.findObj_cls hh ha hn hv' hc (by rw [hl, hv])) hv' h

theorem get_meth {pl : Sem Bool} {Q : Value × List Value → Shared → Prop} (X : K.In s.heap) (I : ObjM s.heap x dx C mA) (hg : PySem.W.plainGet K C name = true)
    (hf : PySem.W.findIn K (.ref C) name = some (some (.ref f))) (ht : PySem.W.isFn K (.ref f) = true) (hv : mA name = none) (h : Q (.ref f, [.ref x]) s) :
    wpAny (model prog w) A (getMethod (.ref x) name pl) Q E s := by
  obtain ⟨od, J, hl⟩ := I.look
  exact PySem.W.method_fn X J (PySem.W.plainGet_of hg).1 (PySem.W.plainGet_of hg).2 hf (beq_iff_eq.mp ht) (by show (PySem.W.lookIn name od).map (·.isSome) = some false; rw [hl, hv]; rfl) h

theorem set_map {ns : List Str} {Q : Unit → Shared → Prop} (X : K.In s.heap) (I : ObjM s.heap x dx C mA)
    (hs : PySem.W.findIn K (.ref C) "__setattr__" = some (some (.builtin "object.__setattr__"))) (hp : PySem.W.plainOver K C = true) (ht : PySem.W.takerIn K C name = some none) (hh : PySem.W.hasDictIn K C = true)
    (hw : PySem.Within mA ns) (hsz : ns.length ≤ sizeLine)
    (h : ∀ h', ObjM h' x dx C (fun y => if y = name then some v else mA y) → Heap.SameBut dx s.heap h' → Q () { s with heap := h', toks := s.toks + 2 }) :
    wpAny (model prog w) A (setAttr (.ref x) name v) Q E s := by
  obtain ⟨od, J, hl⟩ := I.look
  refine PySem.W.set_plain X J hs (PySem.W.osa_open (s := { s with toks := s.toks + 1 }) (r := none) X J hp ht fun b => ?_)
  obtain ⟨cd, hc, hd'⟩ := PySem.W.any_some hh
  have hx : s.heap.get? x = some ⟨.ref C, some dx, .plain, #[]⟩ := I.obj
  refine wpAny_bind (wpAny_pure (wpAny_bind (wpAny_bind (wpAny_loadPart hx (wpAny_bind (PySem.W.Looks.here (s := { s with toks := s.toks + 1 }) (PySem.W.looks_clsIn X hc) ?_))))))
  rw [hd']
  refine wpAny_pure (a := some dx) (wpAny_bind (wpAny_pure (wpAny_bind ?_)))
  refine wpAny_nsSet1 (s := { s with toks := s.toks + 1 }) I.ns fun h' hn2 hs2 => ?_
  obtain ⟨oD, esD, epD, hoD, hdD, hcD⟩ := hn2.count (PySem.Within.cons name v hw)
  refine wpAny_bind (wpAny_lookBehind hoD (by rw [hdD]; exact pastItsLine_dict (Nat.le_trans hcD (by rw [List.length_cons]; omega))) ?_)
  exact wpAny_pure (h _ ⟨(hs2.2 _ (Ne.symm I.ne)).trans I.obj, hn2, I.ne⟩ hs2)

/-- C(..): the dict at the heap's end, the instance behind it; then its __init__ -/
theorem make_map {R : Result → Shared → Prop} {vs : List Value} {kw : List (Str × Value)} (X : K.In s.heap) (hm : PySem.W.makesIn K C = true)
    (hi : PySem.W.findIn K (.ref C) "__init__" = some (some (.ref f))) (hf : PySem.W.typeIn K (.ref f) = some (.type "function"))
    (h : codeAny (model prog w) (A.under (.builtin "type.__call__" ⟨.ref C :: vs, kw⟩)) (.call (.ref f) ⟨.ref (s.heap.objs.size + 1) :: vs, kw⟩) (PySem.W.InitBack (s.heap.objs.size + 1) R)
      { s with heap := (s.heap.push PySem.W.emptyDict).push (PySem.W.instObj C s.heap.objs.size) }) :
    codeAny (model prog w) A (.call (.ref C) ⟨vs, kw⟩) R s := by
  obtain ⟨hh, g, d, t, os⟩ := s
  exact PySem.W.make_core (PySem.W.makes_of X hm) (PySem.W.looks_findIn X hi) (fun self => PySem.W.bind_fn X self hf) (.inl rfl) h
/-- C() where there is no __init__ but object's -/
theorem make_map0 {R : Result → Shared → Prop} (X : K.In s.heap) (hm : PySem.W.makesIn K C = true)
    (hi : PySem.W.findIn K (.ref C) "__init__" = some (some (.builtin "object.__init__")))
    (hb : ∀ self, PySem.W.Looks (model prog w) s.heap (bindSpecial (.builtin "object.__init__") self) (.builtin "object.__init__", [self]))
    (h : codeAny (model prog w) (A.under (.builtin "type.__call__" ⟨[.ref C], []⟩)) (.call (.builtin "object.__init__") ⟨[.ref (s.heap.objs.size + 1)], []⟩) (PySem.W.InitBack (s.heap.objs.size + 1) R)
      { s with heap := (s.heap.push PySem.W.emptyDict).push (PySem.W.instObj C s.heap.objs.size) }) :
    codeAny (model prog w) A (.call (.ref C) ⟨[], []⟩) R s := by
  obtain ⟨hh, g, d, t, os⟩ := s
  exact PySem.W.make_core (PySem.W.makes_of X hm) (PySem.W.looks_findIn X hi) hb (.inr ⟨rfl, rfl⟩) h
end

/-! ### the attributes as a list of pairs -/
def putF (f : Str) (v : V) : List (Str × V) → List (Str × V)
  | [] => [(f, v)]
  | (g, x) :: r => if g = f then (g, v) :: r else (g, x) :: putF f v r
theorem lookup_putF (f g : Str) (v : V) : ∀ fs : List (Str × V), (putF f v fs).lookup g = if g = f then some v else fs.lookup g
  | [] => by
    show List.lookup g [(f, v)] = _
    by_cases h : g = f
    · have hb : (g == f) = true := beq_iff_eq.mpr h
      simp only [List.lookup, hb, if_pos h]
    · have hb : (g == f) = false := beq_eq_false_iff_ne.mpr h
      simp only [List.lookup, hb, if_neg h]
  | (k, x) :: r => by
    have ih := lookup_putF f g v r
    rw [show putF f v ((k, x) :: r) = (if k = f then (k, v) :: r else (k, x) :: putF f v r) from rfl]
    by_cases hk : k = f
    · rw [if_pos hk]
      by_cases h : g = k
      · have hb : (g == k) = true := beq_iff_eq.mpr h
        simp only [List.lookup, hb, if_pos (h.trans hk)]
      · have hb : (g == k) = false := beq_eq_false_iff_ne.mpr h
        simp only [List.lookup, hb, if_neg (fun e : g = f => h (e.trans hk.symm))]
    · rw [if_neg hk]
      by_cases h : g = k
      · have hb : (g == k) = true := beq_iff_eq.mpr h
        simp only [List.lookup, hb, if_neg (fun e : g = f => hk (h.symm.trans e))]
      · have hb : (g == k) = false := beq_eq_false_iff_ne.mpr h
        simp only [List.lookup, hb]
        exact ih
theorem keys_putF (f : Str) (v : V) : ∀ fs : List (Str × V), f ∈ (putF f v fs).map (·.1) ∧ ∀ g, g ∈ fs.map (·.1) → g ∈ (putF f v fs).map (·.1)
  | [] => ⟨by simp [putF], fun g h => by simp at h⟩
  | (k, x) :: r => by
    obtain ⟨i1, i2⟩ := keys_putF f v r
    rw [show putF f v ((k, x) :: r) = (if k = f then (k, v) :: r else (k, x) :: putF f v r) from rfl]
    by_cases hk : k = f
    · rw [if_pos hk]
      subst hk
      exact ⟨by simp, fun g h => by simpa using h⟩
    · rw [if_neg hk]
      refine ⟨?_, fun g h => ?_⟩
      · rw [List.map_cons]
        exact List.mem_cons_of_mem _ i1
      · rw [List.map_cons] at h ⊢
        rcases List.mem_cons.mp h with e | e
        · exact List.mem_cons.mpr (.inl e)
        · exact List.mem_cons_of_mem _ (i2 g e)
theorem length_putF (f : Str) (v : V) : ∀ fs : List (Str × V), (putF f v fs).length ≤ fs.length + 1
  | [] => by simp [putF]
  | (k, x) :: r => by
    have ih := length_putF f v r
    rw [show putF f v ((k, x) :: r) = (if k = f then (k, v) :: r else (k, x) :: putF f v r) from rfl]
    by_cases hk : k = f
    · rw [if_pos hk, List.length_cons, List.length_cons]; omega
    · rw [if_neg hk, List.length_cons, List.length_cons]; omega

theorem RelO.some_of {v : V} {o : Option Value} (r : RelO (some v) o) : ∃ u, o = some u ∧ RelV v u := by
  cases o with
  | none => exact (show False from r).elim
  | some u => exact ⟨u, rfl, r⟩
theorem RelO.none_of {o : Option Value} (r : RelO none o) : o = none := by
  cases o with
  | none => rfl
  | some u => exact (show False from r).elim
theorem handed_of {v : V} {u : Value} (r : RelV v u) : PySem.W.handedIn u = true := by
  cases v with
  | non => cases (show u = Value.none from r); rfl
  | bl b => cases (show u = Value.bool b from r); rfl
  | int i => obtain ⟨t, e⟩ := (show ∃ t, u = Value.int i t from r); cases e; rfl
  | str x => obtain ⟨t, e⟩ := (show ∃ t, u = Value.str x t from r); cases e; rfl
  | byt b => obtain ⟨t, e⟩ := (show ∃ t, u = Value.bytes b t from r); cases e; rfl
  | flt b => obtain ⟨t, e⟩ := (show ∃ t, u = Value.float b t from r); cases e; rfl
  | ref a => cases (show u = Value.ref a from r); rfl
  | ty n => cases (show u = Value.type n from r); rfl

section
variable {P : Program} {w : World} {H H' : Hp} {h h' : Heap} {a C dx : Addr} {fs fs' : List (Str × V)}
theorem ins_get (hok : HOk P w H h) (e : H a = some (.ins C dx fs)) : ∃ mA, ObjM h a dx C mA ∧ (∀ f, RelO (fs.lookup f) (mA f)) ∧ PySem.Within mA (fs.map (·.1)) ∧ fs.length ≤ 1000 ∧ H dx = some (.own a) := by
  obtain ⟨d, z, ne, ob, mA, n, r, q⟩ := (show ObjOk P w H h a (.ins C dx fs) from hok a _ e)
  exact ⟨mA, ⟨ob, n, ne⟩, r, q, z, d⟩
end

/-! ### what of the text a class must have -/
structure Cls (K : PySem.W.Frag) (C : Addr) : Prop where
  pg : PySem.W.plainGet K C Str.empty = true
  hd : PySem.W.hasDictIn K C = true
  po : PySem.W.plainOver K C = true
  sa : PySem.W.findIn K (.ref C) "__setattr__" = some (some (.builtin "object.__setattr__"))
theorem Cls.get {K : PySem.W.Frag} {C : Addr} (c : Cls K C) (f : Str) : PySem.W.plainGet K C f = true := c.pg
/-- no class of it has the name -/
def NoAttr (K : PySem.W.Frag) (C : Addr) (f : Str) : Prop := PySem.W.findIn K (.ref C) f = some none
theorem NoAttr.taker {K : PySem.W.Frag} {C : Addr} {f : Str} (n : NoAttr K C f) : PySem.W.takerIn K C f = some none := by
  unfold PySem.W.takerIn
  rw [show PySem.W.findIn K (.ref C) f = some none from n]
  rfl
/-- a constant of the class -/
structure Con (K : PySem.W.Frag) (C : Addr) (f : Str) (v : V) (u : Value) : Prop where
  at_ : PySem.W.findIn K (.ref C) f = some (some u)
  rel : RelV v u
  get : PySem.W.specialIn K u "__get__" = some none
  cp : PySem.W.copiedNames.contains f = false
/-- a method: a plain def of the class or of one above it -/
structure Meth (K : PySem.W.Frag) (C : Addr) (m : Str) (f : Addr) : Prop where
  at_ : PySem.W.findIn K (.ref C) m = some (some (.ref f))
  fn : PySem.W.isFn K (.ref f) = true
  kp : PySem.W.keepIn K (.ref f) = true

section
variable {X : Cx} {pins : List (Addr × Obj)} {σ : St} {H : Hp} {s : Shared} {a C dx : Addr} {fs : List (Str × V)} {f : Str} {v : V} {A : Around} {E : Value → Shared → Prop}

theorem getattr_ok {b : Bool} {Q : Value → Shared → Prop} (I : Inv X pins σ H s) (e : H a = some (.ins C dx fs)) (c : Cls X.K C) (n : NoAttr X.K C f) (l : fs.lookup f = some v)
    (h : ∀ u s', Inv X pins σ H s' → RelV v u → Q u s') : wpAny (model X.prog X.w) A (getAttr (.ref a) f b) Q E s := by
  obtain ⟨mA, O, r, _, _, _⟩ := ins_get I.hok e
  obtain ⟨u, hu, ru⟩ := RelO.some_of (v := v) (o := mA f) (by rw [← l]; exact r f)
  exact get_map I.kIn O (c.get f) c.hd n hu (handed_of ru) (h u _ (I.tok _) ru)

theorem getcon_ok {b : Bool} {u : Value} {Q : Value → Shared → Prop} (I : Inv X pins σ H s) (e : H a = some (.ins C dx fs)) (c : Cls X.K C) (k : Con X.K C f v u) (l : fs.lookup f = none)
    (h : ∀ s', Inv X pins σ H s' → Q u s') : wpAny (model X.prog X.w) A (getAttr (.ref a) f b) Q E s := by
  obtain ⟨mA, O, r, _, _, _⟩ := ins_get I.hok e
  have hn : mA f = none := RelO.none_of (by rw [← l]; exact r f)
  exact get_const I.kIn O (c.get f) c.hd k.at_ k.get k.cp hn (handed_of k.rel) (h _ (I.tok _))

theorem getmeth_ok {m : Str} {g : Addr} {pl : Sem Bool} {Q : Value × List Value → Shared → Prop} (I : Inv X pins σ H s) (e : H a = some (.ins C dx fs)) (c : Cls X.K C) (k : Meth X.K C m g) (l : fs.lookup m = none)
    (h : Q (.ref g, [.ref a]) s) : wpAny (model X.prog X.w) A (getMethod (.ref a) m pl) Q E s := by
  obtain ⟨mA, O, r, _, _, _⟩ := ins_get I.hok e
  have hn : mA m = none := RelO.none_of (by rw [← l]; exact r m)
  exact get_meth I.kIn O (c.get m) k.at_ k.fn hn h

theorem setattr_ok {y : V} {u : Value} {Q : Unit → Shared → Prop} (I : Inv X pins σ H s) (e : H a = some (.ins C dx fs)) (c : Cls X.K C) (n : NoAttr X.K C f) (hl : fs.length < 1000) (ry : RelV y u)
    (h : ∀ s', Inv X pins σ (upd H a (.ins C dx (putF f y fs))) s' → Q () s') : wpAny (model X.prog X.w) A (setAttr (.ref a) f u) Q E s := by
  obtain ⟨mA, O, r, wi, _, ho⟩ := ins_get I.hok e
  have hz : (fs.map (·.1)).length ≤ sizeLine := by rw [List.length_map, sizeLine_eq]; omega
  refine set_map I.kIn O c.sa c.po n.taker c.hd wi hz fun h' O' sb => h _ ?_
  have hd : ∃ o, h'.get? dx = some o := let ⟨o, _, _, e', _⟩ := O'.ns; ⟨o, e'⟩
  refine I.write (x := a) (e := dx) (by rw [e]; exact True.intro) (.inr ho) (fun b q hb z => (sb.2 b hb).trans z) hd ?_
  refine ⟨by rw [upd_ne O.ne]; exact ho, ?_, O.ne, O'.obj, _, O'.ns, fun g => ?_, fun g hg => ?_⟩
  · have := length_putF f y fs; omega
  · show RelO ((putF f y fs).lookup g) (if g = f then some u else mA g)
    rw [lookup_putF]
    by_cases q : g = f
    · rw [if_pos q, if_pos q]; exact ry
    · rw [if_neg q, if_neg q]; exact r g
  · by_cases q : g = f
    · rw [q]; exact (keys_putF f y fs).1
    · refine (keys_putF f y fs).2 g (wi g fun z => hg ?_)
      show (if g = f then some u else mA g) = none
      rw [if_neg q]; exact z

/-- a new instance, tracked, without attributes -/
theorem Inv.made (I : Inv X pins σ H s) : Inv X pins σ (upd (upd H s.heap.objs.size (.own (s.heap.objs.size + 1))) (s.heap.objs.size + 1) (.ins C s.heap.objs.size []))
    { s with heap := (s.heap.push PySem.W.emptyDict).push (PySem.W.instObj C s.heap.objs.size) } := by
  have e1 : (s.heap.push PySem.W.emptyDict).get? s.heap.objs.size = some PySem.W.emptyDict := Heap.get?_push_size s.heap rfl
  have e2 : ((s.heap.push PySem.W.emptyDict).push (PySem.W.instObj C s.heap.objs.size)).get? (s.heap.objs.size + 1) = some (PySem.W.instObj C s.heap.objs.size) := by
    have := Heap.get?_push_size (s.heap.push PySem.W.emptyDict) (o := PySem.W.instObj C s.heap.objs.size) rfl
    rwa [Heap.size_push] at this
  have e3 : (s.heap.push PySem.W.emptyDict).Ns s.heap.objs.size (fun _ => none) := ⟨PySem.W.emptyDict, #[], _, e1, rfl, (fun e he => absurd he (by simp)), fun _ => rfl⟩
  have I1 := I.laid (a := s.heap.objs.size) (o := .own (s.heap.objs.size + 1)) (h' := s.heap.push PySem.W.emptyDict) (t' := s.toks) (fun b u q => Heap.get?_push_of_some _ q) (Nat.le_refl _) ⟨_, e1⟩
  refine I1.laid (a := s.heap.objs.size + 1) (o := .ins C s.heap.objs.size []) (t' := s.toks) (fun b u q => Heap.get?_push_of_some _ q) (Nat.le_of_eq (Heap.size_push _ _)) ?_
  have ne : s.heap.objs.size ≠ s.heap.objs.size + 1 := Nat.ne_of_lt (Nat.lt_succ_self _)
  refine ⟨by rw [upd_ne ne, upd_same], Nat.zero_le _, ne, e2, fun _ => none, (Heap.Ns1.of_empty e3).at fun o q => Heap.get?_push_of_some _ q, fun _ => True.intro, fun y hy => absurd rfl hy⟩

/-- e.f where nothing but the object is asked: through attributeBase (super) and the last hold -/
theorem attr_of {prog : Program} {w : World} {env : Env} {e : Expr} {f : Str} {pos : Pos} {s : Shared} {Q : Value → Shared → Prop} (hb : attributeBase e f env (eval e env) = eval e env)
    (h : wpAny (model prog w) A (eval e env) (fun o s₁ => wpAny (model prog w) A (getAttr o f true) Q E s₁) E s) : wpAny (model prog w) A (eval (.Attribute e f pos) env) Q E s :=
  Attribute_any_ h (by rw [arm_eval_Attribute, hb])
end

/-! ### readings and rules -/
/-- e.f, an attribute of the instance -/
def tFld (K : PySem.W.Frag) (ta : TE) (f : Str) : TE := fun σ H Q => ta σ H fun x H1 => ∃ a C dx fs v, x = .ref a ∧ H1 a = some (.ins C dx fs) ∧ Cls K C ∧ NoAttr K C f ∧ fs.lookup f = some v ∧ Q v H1
/-- e.f, a constant of the class -/
def tCon (K : PySem.W.Frag) (ta : TE) (f : Str) : TE := fun σ H Q => ta σ H fun x H1 => ∃ a C dx fs v u, x = .ref a ∧ H1 a = some (.ins C dx fs) ∧ Cls K C ∧ Con K C f v u ∧ fs.lookup f = none ∧ Q v H1
/-- e.f = value -/
def sFld (K : PySem.W.Frag) (ta tv : TE) (f : Str) : TS := fun D σ H => tv σ H fun y H1 => ta σ H1 fun x H2 => ∃ a C dx fs, x = .ref a ∧ H2 a = some (.ins C dx fs) ∧ Cls K C ∧ NoAttr K C f ∧ fs.length < 1000 ∧
  D.nx σ (upd H2 a (.ins C dx (putF f y fs)))
/-- an augmented operator on two values -/
def InOp (X : Cx) (op : Operator) (rd : V → V → Hp → VK → Prop) : Prop :=
  ∀ (pins : List (Addr × Obj)) (s : Shared) (σ : St) (H : Hp) (x y : V) (u v : Value) (Q : VK), Inv X pins σ H s → RelV x u → RelV y v → rd x y H Q → wpAny (model X.prog X.w) X.A (inplaceOp op u v) (EP X pins σ Q) X.xe s
/-- e.f op= value -/
def sFldAug (K : PySem.W.Frag) (ta tv : TE) (rd : V → V → Hp → VK → Prop) (f : Str) : TS := fun D σ H => ta σ H fun x H1 => ∃ a C dx fs v, x = .ref a ∧ H1 a = some (.ins C dx fs) ∧ Cls K C ∧ NoAttr K C f ∧ fs.lookup f = some v ∧
  tv σ H1 fun y H2 => rd v y H2 fun z H3 => ∃ dx' fs', H3 a = some (.ins C dx' fs') ∧ fs'.length < 1000 ∧ D.nx σ (upd H3 a (.ins C dx' (putF f z fs')))

section
variable {X : Cx} {o e value : Expr} {f : Str} {pos pos' tpos : Pos} {ta tv : TE}
theorem pe_fld (he : PE X e ta) (hb : attributeBase e f X.env (eval e X.env) = eval e X.env) : PE X (.Attribute e f pos) (tFld X.K ta f) := by
  intro pins s σ H Q I h
  refine attr_of hb (thn (he pins s σ H _ I h) fun u s1 ⟨x, H1, I1, rx, a, C, dx, fs, v, ex, ea, c, n, l, q⟩ => ?_)
  subst ex
  obtain rfl : u = Value.ref a := rx
  exact getattr_ok I1 ea c n l fun u' s2 I2 ru => ⟨v, H1, I2, ru, q⟩
theorem pe_con (he : PE X e ta) (hb : attributeBase e f X.env (eval e X.env) = eval e X.env) : PE X (.Attribute e f pos) (tCon X.K ta f) := by
  intro pins s σ H Q I h
  refine attr_of hb (thn (he pins s σ H _ I h) fun u s1 ⟨x, H1, I1, rx, a, C, dx, fs, v, u0, ex, ea, c, k, l, q⟩ => ?_)
  subst ex
  obtain rfl : u = Value.ref a := rx
  exact getcon_ok I1 ea c k l fun s2 I2 => ⟨v, H1, I2, k.rel, q⟩
theorem ps_fld (ha : PE X o ta) (hv : PE X value tv) (hs : swapsWith value (some (.Attribute o f pos')) pos.line X.env = pure false) : PS X (.Assign [.Attribute o f pos'] value pos) (sFld X.K ta tv f) := by
  intro pins s σ H D I h
  refine plainObj_wpAny_Assign_Attribute (thn (hv pins s σ H _ I h) fun u s1 ⟨y, H1, I1, ry, q⟩ => thn (ha pins s1 σ H1 _ I1 q) fun ov s2 ⟨x, H2, I2, rx, a, C, dx, fs, ex, ea, c, n, l, q2⟩ => ?_) hs
  subst ex
  obtain rfl : ov = Value.ref a := rx
  exact setattr_ok I2 ea c n l ry fun s3 I3 => ⟨σ, _, I3, q2⟩
theorem ps_fldaug {op : Operator} {rd : V → V → Hp → VK → Prop} (ha : PE X o ta) (hv : PE X value tv) (hop : InOp X op rd) : PS X (.AugAssign (.Attribute o f tpos) op value pos) (sFldAug X.K ta tv rd f) := by
  intro pins s σ H D I h
  refine wpAny_AugAssign_AttributeAny (thn (ha pins s σ H _ I h) fun ov s1 ⟨x, H1, I1, rx, a, C, dx, fs, v, ex, ea, c, n, l, q⟩ => ?_)
  subst ex
  obtain rfl : ov = Value.ref a := rx
  refine getattr_ok I1 ea c n l fun u s2 I2 ru => thn (hv pins s2 σ H1 _ I2 q) fun w3 s3 ⟨y, H2, I3, ry, q3⟩ => thn (hop pins s3 σ H2 v y u w3 _ I3 ru ry q3) fun w4 s4 ⟨z, H3, I4, rz, dx', fs', ea', l', q4⟩ => ?_
  exact setattr_ok I4 ea' c n l' rz fun s5 I5 => ⟨σ, _, I5, q4⟩
def rAdd : V → V → Hp → VK → Prop := fun x y H Q => ∃ i j, x = .int i ∧ y = .int j ∧ Q (.int (i + j)) H
def rSub : V → V → Hp → VK → Prop := fun x y H Q => ∃ i j, x = .int i ∧ y = .int j ∧ Q (.int (i - j)) H
theorem in_add : InOp X .Add rAdd := by
  rintro pins s σ H x y u v Q I rx ry ⟨i, j, rfl, rfl, q⟩
  obtain ⟨t, rfl⟩ := (show ∃ t, u = Value.int i t from rx)
  obtain ⟨t', rfl⟩ := (show ∃ t', v = Value.int j t' from ry)
  exact PyProof.Rows.iadd_int ⟨.int (i + j), H, I.tok _, ⟨_, rfl⟩, q⟩
theorem in_sub : InOp X .Sub rSub := by
  rintro pins s σ H x y u v Q I rx ry ⟨i, j, rfl, rfl, q⟩
  obtain ⟨t, rfl⟩ := (show ∃ t, u = Value.int i t from rx)
  obtain ⟨t', rfl⟩ := (show ∃ t', v = Value.int j t' from ry)
  exact PyProof.Rows.isub_int ⟨.int (i - j), H, I.tok _, ⟨_, rfl⟩, q⟩

/-- what is between an instance and its method: the tree of a method call -/
theorem methcall_of {pl : Sem Bool} {m : Str} {apos : Pos} {args : List Expr} {pins : List (Addr × Obj)} {s : Shared} {σ : St} {H : Hp} {Q : Value → Shared → Prop} {te : TE} (he : PE X e te) (I : Inv X pins σ H s)
    (h : te σ H fun x H1 => ∃ a C dx fs g, x = .ref a ∧ H1 a = some (.ins C dx fs) ∧ Cls X.K C ∧ Meth X.K C m g ∧ fs.lookup m = none ∧
      ∀ s1, Inv X pins σ H1 s1 → wpAny (model X.prog X.w) X.A (callWith pos (.ref g) [.ref a] (backTo pos (starEach args X.env)) (backToKw pos (keywordEach [] X.env))) Q X.xe s1)
    (ht : eval (.Call (.Attribute e m apos) args [] pos) X.env = (do
      let ov ← eval e X.env
      standAt apos.atName
      let (f, first) ← holding [ov] (getMethod ov m pl)
      callWith pos f first (backTo pos (starEach args X.env)) (backToKw pos (keywordEach [] X.env)))) :
    wpAny (model X.prog X.w) X.A (eval (.Call (.Attribute e m apos) args [] pos) X.env) Q X.xe s := by
  refine PySem.W.methodCall_KW (pl := pl) (thn (he pins s σ H _ I h) fun u s1 ⟨x, H1, I1, rx, a, C, dx, fs, g, ex, ea, c, k, l, q⟩ => ?_) ht
  subst ex
  obtain rfl : u = Value.ref a := rx
  exact getmeth_ok I1 ea c k l (q s1 I1)
end

/-! ### isinstance -/
section
variable {X : Cx} {pins : List (Addr × Obj)} {σ : St} {H : Hp} {s : Shared} {A : Around} {E : Value → Shared → Prop} {Q : Value → Shared → Prop} {c : Value} {b : Bool}
/-- the type of a value, as the fragment's deciders take it; for an instance its class -/
inductive TyOf (K : PySem.W.Frag) (H : Hp) : V → Value → Prop where
  | non : TyOf K H .non (.type "NoneType")
  | bl (x : Bool) : TyOf K H (.bl x) (.type "bool")
  | int (i : Int) : TyOf K H (.int i) (.type "int")
  | str (x : Str) : TyOf K H (.str x) (.type "str")
  | flt (x : UInt64) : TyOf K H (.flt x) (.type "float")
  | lst {a : Addr} {xs : List V} (e : H a = some (.lst xs)) : TyOf K H (.ref a) (.type "list")
  | frz {a : Addr} {o : Obj} {xs : List V} (e : H a = some (.frz o (.lst xs))) : TyOf K H (.ref a) (.type "list")
  | tup {a : Addr} {xs : List V} (e : H a = some (.tup xs)) : TyOf K H (.ref a) (.type "tuple")
  | dK {a : Addr} {kvs : List (Key × V)} (e : H a = some (.dK kvs)) : TyOf K H (.ref a) (.type "dict")
  | dT {a : Addr} {kvs : List (List Key × V)} (e : H a = some (.dT kvs)) : TyOf K H (.ref a) (.type "dict")
  | ins {a C dx : Addr} {fs : List (Str × V)} (e : H a = some (.ins C dx fs)) (cl : Cls K C) (ha : PySem.W.findIn K (.ref C) "__class__" = some (some (.builtin "object.__class__")))
      (hn : PySem.W.specialIn K (.builtin "object.__class__") "__get__" = some (some (.builtin "getset_descriptor.__get__"))) (htk : PySem.W.takesIn K (.builtin "object.__class__") = some true)
      (hm : PySem.W.mroIn K C (.type "object") = some true) : TyOf K H (.ref a) (.ref C)
/-- isinstance(x, c) for one class c, a built-in or an own one: kitOne's answer -/
theorem isinst_ok {x : V} {u t : Value} (I : Inv X pins σ H s) (rx : RelV x u) (ty : TyOf X.K H x t) (e : PySem.W.kitOne X.K t c = some b) (h : ∀ tk, Q (.bool b) { s with toks := tk }) :
    wpAny (model X.prog X.w) A (call (.builtin "isinstance") [u, c]) Q E s := by
  cases ty with
  | non => cases (show u = Value.none from rx); exact PySem.W.kia_one PySem.W.kitx_none I.kIn True.intro e (fun z => nomatch z) h
  | bl y => cases (show u = Value.bool y from rx); exact PySem.W.kia_one PySem.W.kitx_bool I.kIn True.intro e (fun z => nomatch z) h
  | int i => obtain ⟨t, q⟩ := (show ∃ t, u = Value.int i t from rx); cases q; exact PySem.W.kia_one PySem.W.kitx_int I.kIn True.intro e (fun z => nomatch z) h
  | str y => obtain ⟨t, q⟩ := (show ∃ t, u = Value.str y t from rx); cases q; exact PySem.W.kia_one PySem.W.kitx_str I.kIn True.intro e (fun z => nomatch z) h
  | flt y => obtain ⟨t, q⟩ := (show ∃ t, u = Value.float y t from rx); cases q; exact PySem.W.kia_one PySem.W.kitx_float I.kIn True.intro e (fun z => nomatch z) h
  | @lst a xs ea =>
    cases (show u = Value.ref a from rx)
    obtain ⟨_, _, n, _, h1⟩ := (show ObjOk X.prog X.w H s.heap a (.lst xs) from I.hok a _ ea)
    exact PySem.W.kia_one PySem.W.kitx_list I.kIn ⟨_, h1, rfl⟩ e (fun z => nomatch z) h
  | @frz a ob xs ea =>
    cases (show u = Value.ref a from rx)
    obtain ⟨_, _, _, n, _, h1⟩ := (show ObjOk X.prog X.w H s.heap a (.frz ob (.lst xs)) from I.hok a _ ea)
    exact PySem.W.kia_one PySem.W.kitx_list I.kIn ⟨_, h1, rfl⟩ e (fun z => nomatch z) h
  | @tup a xs ea =>
    cases (show u = Value.ref a from rx)
    obtain ⟨_, _, _, p⟩ := (show ObjOk X.prog X.w H s.heap a (.tup xs) from I.hok a _ ea)
    obtain ⟨o, h1, h2, _⟩ := p
    exact PySem.W.kia_one PySem.W.kitx_tuple I.kIn ⟨o, h1, h2⟩ e (fun z => nomatch z) h
  | @dK a kvs ea =>
    cases (show u = Value.ref a from rx)
    obtain ⟨_, _, vs, _, p⟩ := (show ObjOk X.prog X.w H s.heap a (.dK kvs) from I.hok a _ ea)
    obtain ⟨o, es, ep, h1, h2, _⟩ := p
    exact PySem.W.kia_one PySem.W.kitx_dict I.kIn ⟨o, h1, h2.1⟩ e (fun z => nomatch z) h
  | @dT a kvs ea =>
    cases (show u = Value.ref a from rx)
    obtain ⟨_, _, xs, _, o, es, ep, h1, h2, _⟩ := (show ObjOk X.prog X.w H s.heap a (.dT kvs) from I.hok a _ ea)
    exact PySem.W.kia_one PySem.W.kitx_dict I.kIn ⟨o, h1, h2.1⟩ e (fun z => nomatch z) h
  | @ins a C dx fs ea cl ha hn htk hm =>
    cases (show u = Value.ref a from rx)
    obtain ⟨mA, O, _⟩ := ins_get I.hok ea
    obtain ⟨od, J, _⟩ := O.look
    exact PySem.W.kia_one (PySem.W.kitx_own (cl.get _) cl.hd ha hn htk hm) I.kIn J e (fun z => nomatch z) h
end
end L2

namespace L2
open PySem PySem.Spec PyProof.Rows

/-! ### room -/
structure Room (k : Nat) (A : Around) : Prop where
  hd : A.handled = none
  dp : A.depth + 3 * k + 5 < recursionLimit
  un : A.units + 16 * k + 200 < cLine
theorem Room.mono {j k : Nat} {A : Around} (r : Room k A) (h : j ≤ k) : Room j A := ⟨r.hd, by have := r.dp; omega, by have := r.un; omega⟩
theorem Room.deeper {k : Nat} {A : Around} (r : Room (k + 1) A) (env : Env) : Room k (A.deeper env) :=
  ⟨r.hd, by have := r.dp; show A.depth + 1 + 3 * k + 5 < _; omega, by have := r.un; show A.units + 3 + 16 * k + 200 < _; omega⟩
theorem Room.in1 {k : Nat} {A : Around} (r : Room (k + 1) A) : Room k A.in1 :=
  ⟨r.hd, by have := r.dp; show A.depth + 3 * k + 5 < _; omega, by have := r.un; show A.units + 1 + 16 * k + 200 < _; omega⟩
theorem make_depth {A : Around} {C : Addr} {us : List Value} {kw : List (Str × Value)} : (A.under (.builtin "type.__call__" ⟨.ref C :: us, kw⟩)).depth = A.depth + 1 := by
  first | rfl | simp [Around.under, Code.weight, Code.isCreation, Code.isGuard, Code.isCaller, Code.frames, Code.isFrame, guardIds]
theorem make_units {A : Around} {C : Addr} {us : List Value} {kw : List (Str × Value)} : (A.under (.builtin "type.__call__" ⟨.ref C :: us, kw⟩)).units = A.units + 1 := by
  first | rfl | simp [Around.under, Code.cUnits, Code.frames, Code.isFrame]
theorem Room.make {k : Nat} {A : Around} (r : Room (k + 1) A) (C : Addr) (us : List Value) (kw : List (Str × Value)) : Room k (A.under (.builtin "type.__call__" ⟨.ref C :: us, kw⟩)) :=
  ⟨r.hd, by have := r.dp; rw [make_depth]; omega, by have := r.un; rw [make_units]; omega⟩
theorem Room.depth {k : Nat} {A : Around} (r : Room k A) : A.depth < recursionLimit := by have := r.dp; omega
theorem Room.units {k : Nat} {A : Around} (r : Room k A) : A.units + 64 < cLine := by have := r.un; omega
theorem Room.units0 {k : Nat} {A : Around} (r : Room k A) : A.units < cLine := by have := r.un; omega

/-! ### argument lists and displays -/
def tNil : TA := fun _ H Q => Q [] H
def tCons (ta : TE) (tr : TA) : TA := fun σ H Q => ta σ H fun x H1 => tr σ H1 fun xs H2 => Q (x :: xs) H2
section
variable {X : Cx} {e : Expr} {es : List Expr} {te : TE} {t : TA} {pos : Pos}
theorem pa_nil : PA X [] tNil := fun _ _ _ _ H Q I h => Calls.spliced_nil ⟨[], H, I, .nil, h⟩
theorem pa_cons (ha : PE X e te) (hr : PA X es t) (hs : starEach (e :: es) X.env = (false, eval e X.env) :: starEach es X.env := by rfl) : PA X (e :: es) (tCons te t) := by
  intro pos pins s σ H Q I h
  rw [hs]
  show wpAny _ _ (spliced ((false, eval e X.env) :: backTo pos (starEach es X.env))) _ _ s
  refine Calls.spliced_cons (thn (ha pins s σ H _ I h) fun u s1 ⟨x, H1, I1, r1, q1⟩ => ?_)
  exact thn (hr pos pins s1 σ H1 _ I1 q1) fun us s2 ⟨xs, H2, I2, r2, q2⟩ => ⟨x :: xs, H2, I2, .cons r1 r2, q2⟩

/-- a tuple, a list of written items -/
def tTup (t : TA) : TE := fun σ H Q => t σ H fun xs H1 => xs.length ≤ sizeLine ∧ ∀ p, H1 p = none → Q (.ref p) (upd H1 p (.tup xs))
def tLst (t : TA) : TE := fun σ H Q => t σ H fun xs H1 => xs.length ≤ sizeLine ∧ ∀ p, H1 p = none → Q (.ref p) (upd H1 p (.lst xs))
theorem pe_tup {x1} (h : PA X es t) : PE X (.Tuple es x1 pos) (tTup t) := by
  intro pins s σ H Q I hq
  refine wpAny_Tuple_spliced (thn (h pos pins s σ H _ I hq) fun us s1 ⟨xs, H1, I1, r, z, q⟩ => ⟨by rw [← r.length]; exact z, ?_⟩)
  have hf : H1 s1.heap.objs.size = none := I1.hok.fresh (Nat.le_refl _)
  refine ⟨.ref s1.heap.objs.size, upd H1 s1.heap.objs.size (.tup xs), I1.laid (t' := s1.toks) (fun b u e => Heap.get?_push_of_some _ e) (Nat.le_refl _) ?_, rfl, q _ hf⟩
  exact ⟨z, us, r, ⟨_, Heap.get?_push_size _ rfl, rfl, _, rfl⟩⟩
theorem pe_lst (h : PA X es t) : PE X (.List es pos) (tLst t) := by
  intro pins s σ H Q I hq
  refine wpAny_List_spliced (thn (h pos pins s σ H _ I hq) fun us s1 ⟨xs, H1, I1, r, z, q⟩ => ⟨by rw [← r.length]; exact z, ?_⟩)
  have hf : H1 s1.heap.objs.size = none := I1.hok.fresh (Nat.le_refl _)
  refine ⟨.ref s1.heap.objs.size, upd H1 s1.heap.objs.size (.lst xs), I1.laid (t' := s1.toks) (fun b u e => Heap.get?_push_of_some _ e) (Nat.le_refl _) ?_, rfl, q _ hf⟩
  exact ⟨z, us, 0, r, Heap.get?_push_size _ rfl⟩
end

/-! ### what a def promises -/
/-- a def's promise: the bound arguments in the parameters' order, the heap, the wanted end, the wanted exception -/
abbrev Sp := List V → Hp → VK → XK → Prop
/-- how an exception lies behind a call (file 08 gives it): the callers' frames, abstract heap and state ahead of the call, the wish, the exception, the state -/
abbrev CXT := List Env → Hp → Shared → XK → Value → Shared → Prop

/-- the state at a call -/
structure Env0 (P : Program) (w : World) (K : PySem.W.Frag) (mg : Str → Option Value) (base : Heap) (A : Around) (outer : List Env) (s : Shared) (H : Hp) : Prop where
  frames : A.frames = some outer
  mod : Mod K mg base
  bs : ∀ b o, base.get? b = some o → s.heap.get? b = some o ∧ H b = none
  bsz : base.objs.size ≤ s.heap.objs.size
  funs : s.heap.FunFrames base outer
  frf : ∀ b ∈ frs outer, H b = none
  hok : HOk P w H s.heap
  bare : AllBare s.gens
/-- a call's end -/
def CE (outer : List Env) (P : Program) (w : World) (H : Hp) (s : Shared) (Q : VK) (u : Value) (s' : Shared) : Prop :=
  ∃ v H', s'.os = s.os ∧ AllBare s'.gens ∧ Un (frs outer) [] H H' s.heap s'.heap ∧ HOk P w H' s'.heap ∧ RelV v u ∧ Q v H'
def CR (CX : CXT) (outer : List Env) (P : Program) (w : World) (H : Hp) (s : Shared) (Q : VK) (E : XK) (r : Result) (s' : Shared) : Prop :=
  match r with
  | .ok (.ret u) => CE outer P w H s Q u s'
  | .ok _ => False
  | .error e => CX outer H s E e s'
structure FnOk (P : Program) (w : World) (K : PySem.W.Frag) (mg : Str → Option Value) (base : Heap) (CX : CXT) (k : Nat) (f : Addr) (fd : FuncData) (ps : List Str) (sp : Sp) : Prop where
  len : ∀ vs H Q E, sp vs H Q E → vs.length = ps.length
  run : ∀ (A : Around) (outer : List Env) (s : Shared) (H : Hp) (args : Args) (us : List Value) (vs : List V) (Q : VK) (E : XK), Room k A → Env0 P w K mg base A outer s H → BindsTo s fd args (ps.zip us) → Vals vs us → sp vs H Q E →
    codeAny (model P w) A (.call (.ref f) args) (CR CX outer P w H s Q E) s
theorem FnOk.mono {P : Program} {w : World} {K : PySem.W.Frag} {mg : Str → Option Value} {base : Heap} {CX : CXT} {j k : Nat} {f : Addr} {fd : FuncData} {ps : List Str} {sp : Sp} (F : FnOk P w K mg base CX j f fd ps sp) (h : j ≤ k) :
    FnOk P w K mg base CX k f fd ps sp := ⟨F.len, fun A outer s H args us vs Q E hr => F.run A outer s H args us vs Q E (hr.mono h)⟩
/-- a weaker promise -/
theorem FnOk.imp {P : Program} {w : World} {K : PySem.W.Frag} {mg : Str → Option Value} {base : Heap} {CX : CXT} {k : Nat} {f : Addr} {fd : FuncData} {ps : List Str} {sp sp' : Sp} (F : FnOk P w K mg base CX k f fd ps sp)
    (h : ∀ vs H Q E, sp' vs H Q E → sp vs H Q E) : FnOk P w K mg base CX k f fd ps sp' :=
  ⟨fun vs H Q E q => F.len vs H Q E (h _ _ _ _ q), fun A outer s H args us vs Q E hr he hb hv hs => F.run A outer s H args us vs Q E hr he hb hv (h _ _ _ _ hs)⟩

theorem Env0.make {P : Program} {w : World} {K : PySem.W.Frag} {mg : Str → Option Value} {base : Heap} {A : Around} {outer : List Env} {s : Shared} {H : Hp} (e : Env0 P w K mg base A outer s H) (C : Addr) (us : List Value) (kw : List (Str × Value)) :
    Env0 P w K mg base (A.under (.builtin "type.__call__" ⟨.ref C :: us, kw⟩)) outer s H := ⟨by first | exact e.frames | (simpa [Around.under, Code.envs, Code.isFrame, pushEnvs] using e.frames), e.mod, e.bs, e.bsz, e.funs, e.frf, e.hok, e.bare⟩
theorem Env0.in1 {P : Program} {w : World} {K : PySem.W.Frag} {mg : Str → Option Value} {base : Heap} {A : Around} {outer : List Env} {s : Shared} {H : Hp} (e : Env0 P w K mg base A outer s H) :
    Env0 P w K mg base A.in1 outer s H := ⟨e.frames, e.mod, e.bs, e.bsz, e.funs, e.frf, e.hok, e.bare⟩

section
variable {X : Cx} {pins : List (Addr × Obj)} {σ : St} {H : Hp} {s s' : Shared}
/-- from a body: what a callee wants -/
theorem Inv.env0 (I : Inv X pins σ H s) : Env0 X.prog X.w X.K X.mg X.base X.A X.stack s H :=
  ⟨I.ok.frames, I.ok.mod, I.bs, Nat.le_trans I.ok.bsz I.sz, I.stack, I.stkFree, I.hok, I.bare⟩
/-- behind a call -/
theorem Inv.after {Q : VK} {u : Value} (I : Inv X pins σ H s) (h : CE X.stack X.prog X.w H s Q u s') : EP X pins σ Q u s' := by
  obtain ⟨v, H', os, bare, un, hok, r, q⟩ := h
  obtain ⟨hh, g, d, t, os'⟩ := s'
  obtain rfl : os' = s.os := os
  exact ⟨v, H', I.call (h' := hh) (g' := g) (d' := d) (t' := t) (ch := []) un hok bare (fun b z => absurd z (by simp)), r, q⟩
end

/-! ### calls -/
/-- f(..): the written arguments, then the defaults dvs; E: what is wanted of an exception -/
def tCall (sp : Sp) (dvs : List V) (E : XK) (t : TA) : TE := fun σ H Q => t σ H fun vs H1 => sp (vs ++ dvs) H1 Q E
/-- o.m(..) of an instance of the class at C -/
def tMeth (C : Addr) (m : Str) (sp : Sp) (dvs : List V) (E : XK) (ta : TE) (t : TA) : TE := fun σ H Q => ta σ H fun x H1 => ∃ a dx fs, x = .ref a ∧ H1 a = some (.ins C dx fs) ∧ fs.lookup m = none ∧
  t σ H1 fun vs H2 => sp (x :: (vs ++ dvs)) H2 Q E
/-- C(..): a new instance and its dict, then __init__ -/
def tMake (C : Addr) (sp : Sp) (dvs : List V) (E : XK) (t : TA) : TE := fun σ H Q => t σ H fun vs H1 => ∀ x dx, H1 x = none → H1 dx = none → dx ≠ x →
  sp (.ref x :: (vs ++ dvs)) (upd (upd H1 dx (.own x)) x (.ins C dx [])) (fun v H2 => v = .non ∧ Q (.ref x) H2) E

/-- how the parameters are bound: us the positional arguments, kw the keywords' values by name, ds the defaults that fill up -/
def Binds (K : PySem.W.Frag) (fd : FuncData) (ps : List Str) (ds : List Value) : Prop :=
  ∀ (s : Shared) (us : List Value), K.In s.heap → (us ++ ds).length = ps.length → BindsTo s fd ⟨us, []⟩ (ps.zip (us ++ ds))
/-- every parameter is given -/
theorem Binds.all {K : PySem.W.Frag} {fd : FuncData} {ps : List Str} (h : ∀ us : List Value, us.length = ps.length → bindArgs fd ⟨us, []⟩ = pure (ps.zip us)) : Binds K fd ps [] := fun s us _ hl => by
  rw [List.append_nil] at hl ⊢
  exact .of_eq (h us hl)

/-- an exception of a callee reaches what this body wants of exceptions -/
def Passes (CX : CXT) (X : Cx) (E : XK) : Prop := ∀ (pins : List (Addr × Obj)) (σ : St) (H : Hp) (s : Shared) (e : Value) (s' : Shared), Inv X pins σ H s → CX X.stack H s E e s' → X.xe e s'

section
variable {X : Cx} {CX : CXT} {k : Nat} {f C : Addr} {fd : FuncData} {ps : List Str} {sp : Sp} {dvs : List V} {ds : List Value} {E : XK} {x m : Str} {p pos apos : Pos} {e o : Expr} {es : List Expr} {ta : TE} {t : TA}

/-- the callee runs -/
theorem run_fn {pins : List (Addr × Obj)} {σ : St} {H : Hp} {s : Shared} {Q : VK} {us : List Value} {vs : List V} (F : FnOk X.prog X.w X.K X.mg X.base CX k f fd ps sp) (hr : Room k X.A) (hb : Binds X.K fd ps ds) (hd : Vals dvs ds) (hx : Passes CX X E)
    (I : Inv X pins σ H s) (r : Vals vs us) (h : sp (vs ++ dvs) H Q E) : wpAny (model X.prog X.w) X.A (call (.ref f) us) (EP X pins σ Q) X.xe s := by
  have r2 : Vals (vs ++ dvs) (us ++ ds) := r.append hd
  have hl : (us ++ ds).length = ps.length := by rw [← r2.length]; exact F.len _ _ _ _ h
  refine wpAny_call (codeAny_mono (F.run X.A X.stack s H ⟨us, []⟩ (us ++ ds) (vs ++ dvs) Q E hr I.env0 (hb s us I.kIn hl) r2 h) fun r s' hq => ?_)
  cases r with
  | error e => exact hx pins σ H s e s' I hq
  | ok fl =>
    cases fl with
    | ret u => exact I.after hq
    | next => exact False.elim hq
    | brk => exact False.elim hq
    | cont => exact False.elim hq

theorem pe_call (F : FnOk X.prog X.w X.K X.mg X.base CX k f fd ps sp) (hr : Room k X.A) (hg : Gl X x) (hm : X.mg x = some (.ref f)) (hk : PySem.W.keepIn X.K (.ref f) = true) (hb : Binds X.K fd ps ds) (hd : Vals dvs ds) (hx : Passes CX X E)
    (ha : PA X (e :: es) t) (hdb : (x == ("__debug__" : Str)) = false := by decide) (he : starEach (e :: es) X.env = (false, eval e X.env) :: starEach es X.env := by rfl) (hpl : (backTo pos (starEach es X.env)).any (·.1) = false := by rfl) :
    PE X (.Call (.Name x p) (e :: es) [] pos) (tCall sp dvs E t) := by
  intro pins s σ H Q I h
  refine wpAny_Call_Name_kw (ld_glob I hg hm ?_ hdb)
  refine PySem.W.callWith_K (h₀ := X.base) I.ok.mod.kin hk (thn (ha pos pins s σ H _ I h) fun us s1 ⟨vs, H1, I1, r, q⟩ => ⟨I1.kIn, ?_⟩) he hpl
  exact run_fn F hr hb hd hx I1 r q
theorem pe_call0 (F : FnOk X.prog X.w X.K X.mg X.base CX k f fd ps sp) (hr : Room k X.A) (hg : Gl X x) (hm : X.mg x = some (.ref f)) (hk : PySem.W.keepIn X.K (.ref f) = true) (hb : Binds X.K fd ps ds) (hd : Vals dvs ds) (hx : Passes CX X E)
    (hdb : (x == ("__debug__" : Str)) = false := by decide) : PE X (.Call (.Name x p) [] [] pos) (tCall sp dvs E tNil) := by
  intro pins s σ H Q I h
  refine wpAny_Call_Name_kw (ld_glob I hg hm ?_ hdb)
  exact PySem.W.callWith_K0 I.kIn hk (run_fn (us := []) F hr hb hd hx I .nil h)

/-- o.m(e, ..) -/
theorem pe_meth {pl : Sem Bool} (he : PE X o ta) (c : Cls X.K C) (hm : Meth X.K C m f) (F : FnOk X.prog X.w X.K X.mg X.base CX k f fd ps sp) (hr : Room k X.A) (hb : Binds X.K fd ps ds) (hd : Vals dvs ds) (hx : Passes CX X E) (ha : PA X (e :: es) t)
    (hst : starEach (e :: es) X.env = (false, eval e X.env) :: starEach es X.env := by rfl) (hpl : (backTo pos (starEach es X.env)).any (·.1) = false := by rfl)
    (ht : eval (.Call (.Attribute o m apos) (e :: es) [] pos) X.env = (do
      let ov ← eval o X.env
      standAt apos.atName
      let (f, first) ← holding [ov] (getMethod ov m pl)
      callWith pos f first (backTo pos (starEach (e :: es) X.env)) (backToKw pos (keywordEach [] X.env))) := by rfl) :
    PE X (.Call (.Attribute o m apos) (e :: es) [] pos) (tMeth C m sp dvs E ta t) := by
  intro pins s σ H Q I h
  refine PySem.W.methodCall_KW (pl := pl) (thn (he pins s σ H _ I h) fun u s1 ⟨x, H1, I1, rx, a, dx, fs, ex, ea, l, q⟩ => ?_) ht
  subst ex
  obtain rfl : u = Value.ref a := rx
  refine getmeth_ok I1 ea c hm l ?_
  refine PySem.W.callWith_K (first := [.ref a]) (h₀ := X.base) I.ok.mod.kin hm.kp (thn (ha pos pins s1 σ H1 _ I1 q) fun us s2 ⟨vs, H2, I2, r, q2⟩ => ⟨I2.kIn, ?_⟩) hst hpl
  exact run_fn (us := .ref a :: us) (vs := .ref a :: vs) F hr hb hd hx I2 (.cons rfl r) q2
/-- o.m() -/
theorem pe_meth0 {pl : Sem Bool} (he : PE X o ta) (c : Cls X.K C) (hm : Meth X.K C m f) (F : FnOk X.prog X.w X.K X.mg X.base CX k f fd ps sp) (hr : Room k X.A) (hb : Binds X.K fd ps ds) (hd : Vals dvs ds) (hx : Passes CX X E)
    (ht : eval (.Call (.Attribute o m apos) [] [] pos) X.env = (do
      let ov ← eval o X.env
      standAt apos.atName
      let (f, first) ← holding [ov] (getMethod ov m pl)
      callWith pos f first (backTo pos (starEach [] X.env)) (backToKw pos (keywordEach [] X.env))) := by rfl) :
    PE X (.Call (.Attribute o m apos) [] [] pos) (tMeth C m sp dvs E ta tNil) := by
  intro pins s σ H Q I h
  refine PySem.W.methodCall_KW (pl := pl) (thn (he pins s σ H _ I h) fun u s1 ⟨x, H1, I1, rx, a, dx, fs, ex, ea, l, q⟩ => ?_) ht
  subst ex
  obtain rfl : u = Value.ref a := rx
  refine getmeth_ok I1 ea c hm l ?_
  exact PySem.W.callWith_K0 (first := [.ref a]) I1.kIn hm.kp (run_fn (us := [.ref a]) (vs := [.ref a]) F hr hb hd hx I1 (.cons rfl .nil) q)

/-- what a class must have to be made -/
structure Mk (K : PySem.W.Frag) (C f : Addr) : Prop where
  makes : PySem.W.makesIn K C = true
  init : PySem.W.findIn K (.ref C) "__init__" = some (some (.ref f))
  fn : PySem.W.isFn K (.ref f) = true
  kp : PySem.W.keepIn K (.ref C) = true

theorem run_make {pins : List (Addr × Obj)} {σ : St} {H : Hp} {s : Shared} {Q : VK} {us : List Value} {vs : List V} (M : Mk X.K C f) (F : FnOk X.prog X.w X.K X.mg X.base CX k f fd ps sp) (hr : Room (k + 1) X.A) (hb : Binds X.K fd ps ds) (hd : Vals dvs ds)
    (hx : Passes CX X E) (I : Inv X pins σ H s) (r : Vals vs us)
    (h : ∀ x dx, H x = none → H dx = none → dx ≠ x → sp (.ref x :: (vs ++ dvs)) (upd (upd H dx (.own x)) x (.ins C dx [])) (fun v H2 => v = .non ∧ Q (.ref x) H2) E) :
    wpAny (model X.prog X.w) X.A (call (.ref C) us) (EP X pins σ Q) X.xe s := by
  have hq := h (s.heap.objs.size + 1) s.heap.objs.size (I.hok.fresh (Nat.le_succ _)) (I.hok.fresh (Nat.le_refl _)) (Nat.ne_of_lt (Nat.lt_succ_self _))
  have I2 := Inv.made (C := C) I
  have r2 : Vals (V.ref (s.heap.objs.size + 1) :: (vs ++ dvs)) (Value.ref (s.heap.objs.size + 1) :: (us ++ ds)) := .cons rfl (r.append hd)
  have hl : (Value.ref (s.heap.objs.size + 1) :: us ++ ds).length = ps.length := by
    have e := r2.length
    rw [F.len _ _ _ _ hq] at e
    exact e.symm
  refine wpAny_call (make_map (f := f) I.kIn M.makes M.init (beq_iff_eq.mp M.fn) (codeAny_mono (F.run _ X.stack _ _ ⟨Value.ref (s.heap.objs.size + 1) :: us, []⟩ (Value.ref (s.heap.objs.size + 1) :: (us ++ ds)) _ _ E (hr.make C us [])
    (I2.env0.make C us []) (hb _ (Value.ref (s.heap.objs.size + 1) :: us) I2.kIn hl) r2 hq) fun r s' hq' => ?_))
  cases r with
  | error e => exact hx pins σ _ _ e s' I2 hq'
  | ok fl =>
    cases fl with
    | ret u =>
      obtain ⟨v, H', I3, rv, ev, q3⟩ := I2.after hq'
      subst ev
      exact ⟨rv, ⟨V.ref (s.heap.objs.size + 1), H', I3, rfl, q3⟩⟩
    | next => exact False.elim hq'
    | brk => exact False.elim hq'
    | cont => exact False.elim hq'
theorem pe_make (M : Mk X.K C f) (F : FnOk X.prog X.w X.K X.mg X.base CX k f fd ps sp) (hr : Room (k + 1) X.A) (hg : Gl X x) (hm : X.mg x = some (.ref C)) (hb : Binds X.K fd ps ds) (hd : Vals dvs ds) (hx : Passes CX X E)
    (ha : PA X (e :: es) t) (hdb : (x == ("__debug__" : Str)) = false := by decide) (he : starEach (e :: es) X.env = (false, eval e X.env) :: starEach es X.env := by rfl) (hpl : (backTo pos (starEach es X.env)).any (·.1) = false := by rfl) :
    PE X (.Call (.Name x p) (e :: es) [] pos) (tMake C sp dvs E t) := by
  intro pins s σ H Q I h
  refine wpAny_Call_Name_kw (ld_glob I hg hm ?_ hdb)
  refine PySem.W.callWith_K (h₀ := X.base) I.ok.mod.kin M.kp (thn (ha pos pins s σ H _ I h) fun us s1 ⟨vs, H1, I1, r, q⟩ => ⟨I1.kIn, ?_⟩) he hpl
  exact run_make M F hr hb hd hx I1 r q
theorem pe_make0 (M : Mk X.K C f) (F : FnOk X.prog X.w X.K X.mg X.base CX k f fd ps sp) (hr : Room (k + 1) X.A) (hg : Gl X x) (hm : X.mg x = some (.ref C)) (hb : Binds X.K fd ps ds) (hd : Vals dvs ds) (hx : Passes CX X E)
    (hdb : (x == ("__debug__" : Str)) = false := by decide) : PE X (.Call (.Name x p) [] [] pos) (tMake C sp dvs E tNil) := by
  intro pins s σ H Q I h
  refine wpAny_Call_Name_kw (ld_glob I hg hm ?_ hdb)
  exact PySem.W.callWith_K0 I.kIn M.kp (run_make (us := []) M F hr hb hd hx I .nil h)
end

/-! ### keywords -/
/-- the values of the keywords, from the left -/
def PK (X : Cx) (kws : List Keyword) (t : TA) : Prop :=
  ∀ (pos : Pos) (pins : List (Addr × Obj)) (s : Shared) (σ : St) (H : Hp) (Q : List V → Hp → Prop), Inv X pins σ H s → t σ H Q → wpAny (model X.prog X.w) X.A (evalAll ((backToKw pos (keywordEach kws X.env)).map (·.2))) (AP X pins σ Q) X.xe s
section
variable {X : Cx} {CX : CXT} {k : Nat} {f C : Addr} {fd : FuncData} {ps ks : List Str} {sp : Sp} {E : XK} {x m : Str} {p pos apos kpos : Pos} {e o : Expr} {es : List Expr} {kws : List Keyword} {te ta : TE} {t tk : TA} {nm : Option Str}
theorem pk_nil : PK X [] tNil := fun _ _ _ _ H Q I h => wpAny_evalAll_nil ⟨[], H, I, .nil, h⟩
theorem pk_cons (ha : PE X e te) (hr : PK X kws t) : PK X (⟨nm, e, kpos⟩ :: kws) (tCons te t) := by
  intro pos pins s σ H Q I h
  show wpAny _ _ (evalAll ((do let v ← eval e X.env; standAt pos; pure v) :: (backToKw pos (keywordEach kws X.env)).map (·.2))) _ _ s
  refine wpAny_evalAll_cons (wpAny_bind (thn (ha pins s σ H _ I h) fun u s1 ⟨x, H1, I1, r1, q1⟩ => wpAny_bind (wpAny_standAt (wpAny_pure ?_))))
  exact thn (hr pos pins s1 σ H1 _ I1 q1) fun us s2 ⟨xs, H2, I2, r2, q2⟩ => ⟨x :: xs, H2, I2, .cons r1 r2, q2⟩

/-- how a call with keywords binds: g puts the positional values us and the keywords' values ws (names ks) in the parameters' order, defaults among them -/
structure KBinds (K : PySem.W.Frag) (fd : FuncData) (ps ks : List Str) (g : List Value → List Value → List Value) (gV : List V → List V → List V) : Prop where
  to : ∀ (s : Shared) (us ws : List Value), K.In s.heap → (g us ws).length = ps.length → BindsTo s fd ⟨us, ks.zip ws⟩ (ps.zip (g us ws))
  rel : ∀ {vs : List V} {us : List Value} {zs : List V} {ws : List Value}, Vals vs us → Vals zs ws → Vals (gV vs zs) (g us ws)
def tCallK (sp : Sp) (gV : List V → List V → List V) (E : XK) (t tk : TA) : TE := fun σ H Q => t σ H fun vs H1 => tk σ H1 fun zs H2 => sp (gV vs zs) H2 Q E
variable {g : List Value → List Value → List Value} {gV : List V → List V → List V}
theorem run_fnk {pins : List (Addr × Obj)} {σ : St} {H : Hp} {s : Shared} {Q : VK} {us ws : List Value} {vs zs : List V} (F : FnOk X.prog X.w X.K X.mg X.base CX k f fd ps sp) (hr : Room k X.A) (hb : KBinds X.K fd ps ks g gV) (hx : Passes CX X E)
    (I : Inv X pins σ H s) (r : Vals vs us) (rz : Vals zs ws) (h : sp (gV vs zs) H Q E) : wpAny (model X.prog X.w) X.A (call (.ref f) us (ks.zip ws)) (EP X pins σ Q) X.xe s := by
  have r2 := hb.rel r rz
  have hl : (g us ws).length = ps.length := by rw [← r2.length]; exact F.len _ _ _ _ h
  refine wpAny_call (codeAny_mono (F.run X.A X.stack s H ⟨us, ks.zip ws⟩ (g us ws) (gV vs zs) Q E hr I.env0 (hb.to s us ws I.kIn hl) r2 h) fun r s' hq => ?_)
  cases r with
  | error e => exact hx pins σ H s e s' I hq
  | ok fl =>
    cases fl with
    | ret u => exact I.after hq
    | next => exact False.elim hq
    | brk => exact False.elim hq
    | cont => exact False.elim hq
/-- f(e, .., k = v, ..) -/
theorem pe_callK (F : FnOk X.prog X.w X.K X.mg X.base CX k f fd ps sp) (hr : Room k X.A) (hg : Gl X x) (hm : X.mg x = some (.ref f)) (hk : PySem.W.keepIn X.K (.ref f) = true) (hb : KBinds X.K fd ps ks g gV) (hx : Passes CX X E)
    (ha : PA X (e :: es) t) (hkw : PK X kws tk) (hall : (backToKw pos (keywordEach kws X.env)).all (·.1.isSome) = true := by rfl) (hks : (backToKw pos (keywordEach kws X.env)).filterMap (·.1) = ks := by rfl)
    (hdb : (x == ("__debug__" : Str)) = false := by decide) (he : starEach (e :: es) X.env = (false, eval e X.env) :: starEach es X.env := by rfl)
    (hpl : ((backTo pos (starEach (e :: es) X.env)).any (·.1) || (backToKw pos (keywordEach kws X.env)).any (·.1.isNone)) = false := by rfl) :
    PE X (.Call (.Name x p) (e :: es) kws pos) (tCallK sp gV E t tk) := by
  intro pins s σ H Q I h
  refine wpAny_Call_Name_kw (ld_glob I hg hm ?_ hdb)
  refine PySem.W.callWith_KW (h₀ := X.base) I.ok.mod.kin hk hall (thn (ha pos pins s σ H _ I h) fun us s1 ⟨vs, H1, I1, r, q⟩ => ?_) hpl he
  refine thn (hkw pos pins s1 σ H1 _ I1 q) fun ws s2 ⟨zs, H2, I2, rz, q2⟩ => ⟨I2.kIn, ?_⟩
  rw [hks]
  exact run_fnk F hr hb hx I2 r rz q2
end

/-! ### a def's body keeps its promise -/
/-- names: the parameters first -/
structure FnScope (N P : List Str) (sc : Scope) : Prop where
  kind : sc.kind = .function
  co : sc.isCoroutine = false
  gen : sc.isGenerator = false
  nd : N.Nodup
  pre : N.take P.length = P
  par : ∀ x ∈ P, sc.names.lookup x = some .local ∨ sc.names.lookup x = some .cell
  nofree : ∀ y ∈ sc.names, y.2 ≠ .free

theorem bindL_out {kindOf : Str → Option NameKind} {x : Str} : ∀ {binds : List (Str × Value)} {m : Str → Option Value}, (∀ v, (x, v) ∉ binds) → bindL kindOf binds m x = m x
  | [], _, _ => rfl
  | (n, v) :: r, m, h => by
    unfold bindL
    rw [bindL_out fun w hw => h w (List.mem_cons_of_mem _ hw)]
    split
    · have : x ≠ n := by rintro rfl; exact h v List.mem_cons_self
      simp [this]
    · rfl
theorem bindC_out {kindOf : Str → Option NameKind} {x : Str} : ∀ {binds : List (Str × Value)} {m : Str → Option Value}, (∀ v, (x, v) ∉ binds) → bindC kindOf binds m x = m x
  | [], _, _ => rfl
  | (n, v) :: r, m, h => by
    unfold bindC
    rw [bindC_out fun w hw => h w (List.mem_cons_of_mem _ hw)]
    split
    · rfl
    · have : x ≠ n := by rintro rfl; exact h v List.mem_cons_self
      simp [this]
theorem bindL_get {kindOf : Str → Option NameKind} {x : Str} {v : Value} : ∀ {P : List Str} {vs : List Value} {i : Nat} {m : Str → Option Value}, P.Nodup → P[i]? = some x → vs[i]? = some v → kindOf x = some .local →
    bindL kindOf (P.zip vs) m x = some v
  | [], _, _, _, _, h, _, _ => by simp at h
  | _ :: _, [], _, _, _, _, h, _ => by simp at h
  | p :: P, w :: vs, 0, m, nd, h1, h2, hk => by
    simp at h1 h2; subst h1; subst h2
    show bindL kindOf ((p, w) :: P.zip vs) m p = _
    unfold bindL
    rw [bindL_out fun v hv => (List.nodup_cons.mp nd).1 (List.of_mem_zip hv).1, if_pos hk]
    simp
  | p :: P, w :: vs, i + 1, m, nd, h1, h2, hk => by
    show bindL kindOf ((p, w) :: P.zip vs) m x = _
    unfold bindL
    exact bindL_get (i := i) (List.nodup_cons.mp nd).2 (by simpa using h1) (by simpa using h2) hk
theorem bindC_get {kindOf : Str → Option NameKind} {x : Str} {v : Value} : ∀ {P : List Str} {vs : List Value} {i : Nat} {m : Str → Option Value}, P.Nodup → P[i]? = some x → vs[i]? = some v → kindOf x ≠ some .local →
    bindC kindOf (P.zip vs) m x = some v
  | [], _, _, _, _, h, _, _ => by simp at h
  | _ :: _, [], _, _, _, _, h, _ => by simp at h
  | p :: P, w :: vs, 0, m, nd, h1, h2, hk => by
    simp at h1 h2; subst h1; subst h2
    show bindC kindOf ((p, w) :: P.zip vs) m p = _
    unfold bindC
    rw [bindC_out fun v hv => (List.nodup_cons.mp nd).1 (List.of_mem_zip hv).1, if_neg hk]
    simp
  | p :: P, w :: vs, i + 1, m, nd, h1, h2, hk => by
    show bindC kindOf ((p, w) :: P.zip vs) m x = _
    unfold bindC
    exact bindC_get (i := i) (List.nodup_cons.mp nd).2 (by simpa using h1) (by simpa using h2) hk

/-- the names' values at the entry -/
def start (N : List Str) (vs : List V) : St := vs.map some ++ List.replicate (N.length - vs.length) none

/-- the context of a def's body, at its entry; an exception leaves the frame, then lies as CX says -/
def cxOf (CX : CXT) (P : Program) (w : World) (K : PySem.W.Frag) (mg : Str → Option Value) (base : Heap) (N : List Str) (qual : Str) (scope : Scope) (f : Addr) (cd : Value) (A : Around) (outer : List Env) (s : Shared) (H : Hp) (E : XK) : Cx where
  prog := P
  w := w
  K := K
  mg := mg
  base := base
  A := A.deeper (envOfC qual scope s.heap.objs.size f cd)
  N := N
  s₀ := s
  H₀ := H
  env := envOfC qual scope s.heap.objs.size f cd
  outer := outer
  stack := envOfC qual scope s.heap.objs.size f cd :: outer
  ex := []
  calm := true
  fn := fun _ => true
  pn := []
  xe := fun e s' => wpAny (model P w) (A.deeper (envOfC qual scope s.heap.objs.size f cd)) (leaving (envOfC qual scope s.heap.objs.size f cd) e) (fun _ s'' => CX outer H s E e s'') (fun e' s'' => CX outer H s E e' s'') s'

theorem cell_has {sc : Scope} {n : Nat} {x : Str} (h : sc.names.lookup x = some .cell) : ∃ c, (cellsFrom n sc.names []).lookup x = some c := by
  have q := PySem.W.cellsFrom_some sc.names n [] (.inl h)
  exact Option.isSome_iff_exists.mp q

theorem inv_start {CX : CXT} {P : Program} {w : World} {K : PySem.W.Frag} {mg : Str → Option Value} {base : Heap} {N ps : List Str} {qual : Str} {scope : Scope} {f : Addr} {cd : Value} {A : Around} {outer : List Env} {s s1 : Shared} {H : Hp} {E : XK} {us : List Value} {vs : List V}
    (S : FnScope N ps scope) (hd : A.handled = none) (e0 : Env0 P w K mg base A outer s H) (hl : vs.length = ps.length) (r : Vals vs us)
    (x : InCallC s s.heap.objs.size (bindL (envOfC qual scope s.heap.objs.size f cd).kindOf (ps.zip us) fun _ => none) (cellsFrom (s.heap.objs.size + 1) scope.names []) (bindC (envOfC qual scope s.heap.objs.size f cd).kindOf (ps.zip us) fun _ => none) s1) :
    Inv (cxOf CX P w K mg base N qual scope f cd A outer s H E) [] (start N vs) H s1 := by
  have hpl : ps.length ≤ N.length := by have := congrArg List.length S.pre; rw [List.length_take] at this; omega
  obtain ⟨h1, tk, rfl, hk⟩ := x.done
  have noA : ∀ b : Addr, b ∉ (cxOf CX P w K mg base N qual scope f cd A outer s H E).ex := fun b z => absurd (show b ∈ ([] : List Addr) from z) (by simp)
  refine ⟨⟨e0.mod, S.kind, rfl, rfl, Nat.le_refl _, fun y z c h1 h2 => ?_, fun y hy => ?_, fun y c _ h => ?_, fun _ => hd, Around.frames_deeper e0.frames, .inr ⟨rfl, rfl⟩, fun b z => absurd z (noA b), e0.bs, e0.bsz, fun b _ _ => noA b, fun b z => absurd z (noA b), e0.funs, e0.frf⟩,
    rfl, e0.bare, Un.kept hk, ⟨_, x.toInCall.ns, fun i y v h1 h2 h3 => ?_⟩, fun y c h => ⟨_, x.cell y c h⟩, e0.hok.fresh (Nat.le_refl _), fun y c h => ?_, fun p hp => absurd (show p ∈ ([] : List (Addr × Obj)) from hp) (by simp), e0.hok.kept hk, ?_⟩
  · exact name_of_addr x.apart (PySem.mem_of_lookup h1) (PySem.mem_of_lookup h2)
  · have hy : scope.names.lookup y = some .cell ∨ scope.names.lookup y = some .free := hy
    rcases hy with hy | hy
    · exact cell_has hy
    · exact absurd rfl (S.nofree _ (PySem.mem_of_lookup hy))
  · exact Nat.le_of_lt (x.above y c (PySem.mem_of_lookup h))
  · have hi : i < vs.length := by
      unfold start at h2
      by_cases hi : i < vs.length
      · exact hi
      · rw [List.getElem?_append_right (by simpa using hi)] at h2
        rw [List.getElem?_replicate] at h2
        split at h2 <;> cases h2
    have ha : vs[i]? = some v := by
      unfold start at h2
      rw [List.getElem?_append_left (by simpa using hi), List.getElem?_map] at h2
      cases e : vs[i]? with
      | none => rw [e] at h2; cases h2
      | some a => rw [e] at h2; cases h2; rfl
    obtain ⟨u, hu, rv⟩ := r.get ha
    have hp : ps[i]? = some y := by
      rw [← S.pre, List.getElem?_take_of_lt (by omega)]; exact h1
    have ndP : ps.Nodup := by rw [← S.pre]; exact S.nd.sublist (List.take_sublist _ _)
    refine ⟨u, rv, ?_⟩
    rcases S.par y (List.mem_of_getElem? hp) with k | k
    · exact .inl ⟨k, bindL_get ndP hp hu k⟩
    · obtain ⟨c, e⟩ := cell_has (n := s.heap.objs.size + 1) k
      refine .inr ⟨.inl k, c, e, ?_⟩
      have q := x.cell y c e
      rw [bindC_get ndP hp hu (by show scope.names.lookup y ≠ _; rw [k]; decide)] at q
      exact q
  · exact e0.hok.fresh (Nat.le_of_lt (x.above y c (PySem.mem_of_lookup h)))
  · unfold start
    show _ = N.length
    rw [List.length_append, List.length_map, List.length_replicate]
    omega

/-- THE RULE: a def (or a method) of the text, by its body. The body's reading t is chosen for each entry; it is run at the parameters' values -/
theorem fn_of {CX : CXT} {P : Program} {w : World} {K : PySem.W.Frag} {mg : Str → Option Value} {base : Heap} {k : Nat} {f : Addr} {name qual : Str} {params : Arguments} {body : List Stmt} {scope : Scope} {dV kV doc pm cdv ct oc : Value} {an od : Option Addr}
    {osl : Array (Option Value)} {N ps : List Str} {sp : Sp} (lk : K.lookup f = some ⟨oc, od, .func (PySem.W.fnOf name qual params body scope dV kV doc pm an cdv ct), osl⟩) (hcd : PySem.W.codeIn K cdv qual = true) (S : FnScope N ps scope)
    (len : ∀ vs H Q E, sp vs H Q E → vs.length = ps.length)
    (hbody : ∀ (A : Around) (outer : List Env) (s : Shared) (H : Hp) (vs : List V) (Q : VK) (E : XK), Room k (A.deeper (envOfC qual scope s.heap.objs.size f cdv)) → sp vs H Q E →
      ∃ t, PSs (cxOf CX P w K mg base N qual scope f cdv A outer s H E) body t ∧ t { nx := fun _ H' => Q .non H', rt := Q } (start N vs) H) :
    FnOk P w K mg base CX (k + 1) f (PySem.W.fnOf name qual params body scope dV kV doc pm an cdv ct) ps sp := by
  refine ⟨len, fun A outer s H args us vs Q E hr e0 hb r hsp => ?_⟩
  have hl := len _ _ _ _ hsp
  have KX : K.In s.heap := e0.mod.kin.keeps fun b o e => (e0.bs b o e).1
  have lim : s.heap.NoLimit := e0.mod.nolimit.keeps fun b o e => (e0.bs b o e).1
  have hkind : ∀ y ∈ ps.zip us, scope.names.lookup y.1 = some .local ∨ (scope.names.lookup y.1 = some .cell ∧ ((cellsFrom (s.heap.objs.size + 1) scope.names []).lookup y.1).isSome = true) := fun ⟨n, v⟩ hy => by
    rcases S.par n (List.of_mem_zip hy).1 with q | q
    · exact .inl q
    · exact .inr ⟨q, PySem.W.cellsFrom_some _ _ _ (.inl q)⟩
  refine codeAny_call_function hr.depth (KX _ _ lk) rfl S.co S.gen rfl (PySem.W.codeRec_of KX hcd) (hb _ _ _ _ ?_)
  refine wpAny_newFunctionEnv_cells S.kind hkind fun env he s1 x => ?_
  subst he
  refine ⟨lim.keeps x.toInCall.keep, codeAny_func ?_⟩
  obtain ⟨t, ht, hq⟩ := hbody A outer s H vs Q E (hr.deeper _) hsp
  have I : Inv (cxOf CX P w K mg base N qual scope f cdv A outer s H E) [] (start N vs) H s1 := inv_start S hr.hd e0 hl r x
  refine wpAny_mono (ht [] s1 (start N vs) H _ I hq) (fun fl s' hs => ?_) fun e s' hs => hs
  have fin : ∀ {σ' : St} {H' : Hp} {v : V} {u : Value}, Inv (cxOf CX P w K mg base N qual scope f cdv A outer s H E) [] σ' H' s' → RelV v u → Q v H' → CE outer P w H s Q u s' :=
    fun {σ' H' v u} J rv q => ⟨v, H', J.os, J.bare, J.base, J.hok, rv, q⟩
  cases fl with
  | ret u =>
    obtain ⟨v, σ', H', J, rv, q⟩ := hs
    exact fin J rv q
  | next =>
    obtain ⟨σ', H', J, q⟩ := hs
    exact fin (v := V.non) (u := Value.none) J rfl q
  | brk =>
    obtain ⟨_, _, _, q⟩ := hs
    exact False.elim q
  | cont =>
    obtain ⟨_, _, _, q⟩ := hs
    exact False.elim q
end L2

namespace L2
open PySem PySem.Spec PyProof.Rows
section
variable {X : Cx} {x : Str} {p pos : Pos} {e : Expr} {es : List Expr} {t : TA} {id T : String} {r : List V → Hp → VK → Prop}

def tCB (r : List V → Hp → VK → Prop) (t : TA) : TE := fun σ H Q => t σ H fun vs H1 => r vs H1 Q
/-- f(e, ..), f a built-in function -/
theorem pe_callB (hc : CallR X (.builtin id) r) (hg : Gl X x) (hm : X.mg x = none) (hv : bootBuiltins x = some (.builtin id)) (ha : PA X (e :: es) t) (hn : x ≠ "__name__" := by decide) (hdb : (x == ("__debug__" : Str)) = false := by decide)
    (he : starEach (e :: es) X.env = (false, eval e X.env) :: starEach es X.env := by rfl) (hpl : (backTo pos (starEach es X.env)).any (·.1) = false := by rfl) : PE X (.Call (.Name x p) (e :: es) [] pos) (tCB r t) := by
  intro pins s σ H Q I h
  refine wpAny_Call_Name_kw (ld_blt I hg hm hv ?_ hn hdb)
  exact PyProof.Rows.callWith_builtin1 (thn (ha pos pins s σ H _ I h) fun us s1 ⟨vs, H1, I1, r1, q1⟩ => hc pins s1 σ H1 vs us Q I1 r1 q1) he hpl
/-- T(e, ..), T a built-in type -/
theorem pe_callTy (hc : CallR X (.type T) r) (hg : Gl X x) (hm : X.mg x = none) (hv : bootBuiltins x = some (.type T)) (ha : PA X (e :: es) t) (hn : x ≠ "__name__" := by decide) (hdb : (x == ("__debug__" : Str)) = false := by decide)
    (he : starEach (e :: es) X.env = (false, eval e X.env) :: starEach es X.env := by rfl) (hpl : (backTo pos (starEach es X.env)).any (·.1) = false := by rfl) : PE X (.Call (.Name x p) (e :: es) [] pos) (tCB r t) := by
  intro pins s σ H Q I h
  refine wpAny_Call_Name_kw (ld_blt I hg hm hv ?_ hn hdb)
  exact PyProof.Rows.callWith_type1 (thn (ha pos pins s σ H _ I h) fun us s1 ⟨vs, H1, I1, r1, q1⟩ => hc pins s1 σ H1 vs us Q I1 r1 q1) he hpl
/-- T() -/
theorem pe_callTy0 (hc : CallR X (.type T) r) (hg : Gl X x) (hm : X.mg x = none) (hv : bootBuiltins x = some (.type T)) (hn : x ≠ "__name__" := by decide) (hdb : (x == ("__debug__" : Str)) = false := by decide) :
    PE X (.Call (.Name x p) [] [] pos) (tCB r tNil) := by
  intro pins s σ H Q I h
  refine wpAny_Call_Name_kw (ld_blt I hg hm hv ?_ hn hdb)
  exact PyProof.Rows.callWith_type0 (hc pins s σ H [] [] Q I .nil h)
end
end L2

namespace HT
open PySem PyProof.Rows

/-- t < u of tuples of ints -/
def lexLt : List Int → List Int → Bool
  | [], [] => false
  | [], _ :: _ => true
  | _ :: _, [] => false
  | x :: xs, y :: ys => if x = y then lexLt xs ys else decide (x < y)
theorem lexLt_cons (x y : Int) (xs ys : List Int) : lexLt (x :: xs) (y :: ys) = if x = y then lexLt xs ys else decide (x < y) := rfl
theorem lexLt_nil_nil : lexLt [] [] = false := rfl
theorem lexLt_nil_cons (y : Int) (ys : List Int) : lexLt [] (y :: ys) = true := rfl
theorem lexLt_cons_nil (x : Int) (xs : List Int) : lexLt (x :: xs) [] = false := rfl

theorem eqAt_int (A : Around) (s : Shared) (a : Int) (t : Tok) (c : Int) (u : Tok) : ∃ e, SeqAt.EqAt A s (.int a t) (.int c u) e ∧ (e = true ↔ a = c) :=
  ⟨(a == c), SeqAt.EqAt.int_int a t c u, by simp⟩
theorem rcLt_int (A : Around) (s : Shared) (a : Int) (t : Tok) (c : Int) (u : Tok) (prog : Program) (w : World) (E : Value → Shared → Prop) (Q : Value → Shared → Prop) (h : Q (.bool (decide (a < c))) s) :
    wpAny (model prog w) A (richCompare .Lt (.int a t) (.int c u)) Q E s :=
  (PyProof.Rows.lt_int h : wpAny (model prog w) A (compareOp .Lt (.int a t) (.int c u)) Q E s)

section
open PySem.SeqAt
open PySem.AutoSeq1 (wpAny_loadPart')
open PySem.MeetsSeq PySem.MeetsSeq2 PySem.MeetsSeq3

theorem tuple_lt_ints (l b : Addr) (items items2 : Array Value) (n n2 : Nat) (dd dd2 : Option Addr) (sl sl2 : Array (Option Value)) (ns ms : List Int) (hi : IntsAre items.toList ns) (hj : IntsAre items2.toList ms) :
    Meets (Builtin.«tuple.__lt__» ⟨[.ref l, .ref b], []⟩)
      (fun _ R s => s.heap.get? l = some { cls := .type "tuple", dict := dd, data := .seq items n, slots := sl } ∧ s.heap.get? b = some { cls := .type "tuple", dict := dd2, data := .seq items2 n2, slots := sl2 } ∧
        R (.ok (.ret (.bool (lexLt ns ms)))) s) :=
  .of_wp fun prog w A R s h => by
    obtain ⟨hp, g, d, tk, os⟩ := s; obtain ⟨hl, hb, h⟩ := h
    have f2 := AutoSeq1.sub_tuple_tuple
    have z1 : items.size = ns.length := by rw [← hi.length]; simp
    have z2 : items2.size = ms.length := by rw [← hj.length]; simp
    wp_walk using wpAny_loadPart' hl, wpAny_loadPart' hb, wpAny_forIn_list _ (fun rest b s' => b.1 = none ∧ s' = ⟨hp, g, d, tk, os⟩ ∧ ∃ (vs ws : List Value) (ns' ms' : List Int), rest = vs.zip ws ∧
      IntsAre vs ns' ∧ IntsAre ws ms' ∧ ns'.length + items2.size = ms'.length + items.size ∧ R (.ok (.ret (.bool (lexLt ns' ms')))) ⟨hp, g, d, tk, os⟩) _
    case turn =>
      rintro ⟨y, x⟩ rest b s' ⟨hb', rfl, vs, ws, ns', ms', hz, hvi, hwi, hlen, hR⟩
      cases hvi with
      | nil => rw [List.zip_nil_left] at hz; cases hz
      | cons a t hvi' =>
        cases hwi with
        | nil => rw [List.zip_nil_right] at hz; cases hz
        | cons c u hwi' =>
          rw [List.zip_cons_cons] at hz
          injection hz with hyx hrest
          injection hyx with hy hx
          subst hy hx
          rw [lexLt_cons] at hR
          simp only [List.length_cons] at hlen
          obtain ⟨e, he, hiff⟩ := eqAt_int A.in1 ⟨hp, g, d, tk, os⟩ a t c u
          refine wpAny_bind (he prog w _ _ ?_)
          cases e with
          | true =>
            rw [if_pos (hiff.mp rfl)] at hR
            wp_walk
            exact ⟨rfl, rfl, _, _, _, _, hrest, hvi', hwi', by omega, hR⟩
          | false =>
            rw [if_neg (fun q => absurd (hiff.mpr q) Bool.false_ne_true)] at hR
            have hri := rcLt_int A.in1 ⟨hp, g, d, tk, os⟩ a t c u prog w
            wp_walk using hri
            exact ⟨_, rfl, by simpa using hR⟩
    case fin =>
      rintro ⟨b1, b2⟩ s' ⟨hb', rfl, vs, ws, ns', ms', hz, hvi, hwi, hlen, hR⟩
      simp only at hb'
      subst hb'
      have hv : lexLt ns' ms' = decide (items.size < items2.size) := by
        cases hvi with
        | nil =>
          cases hwi with
          | nil =>
            simp only [List.length_nil] at hlen
            rw [lexLt_nil_nil]
            exact (decide_eq_false (by omega)).symm
          | cons c u hw =>
            simp only [List.length_nil, List.length_cons] at hlen
            rw [lexLt_nil_cons]
            exact (decide_eq_true (by omega)).symm
        | cons a t hv =>
          cases hwi with
          | nil =>
            simp only [List.length_nil, List.length_cons] at hlen
            rw [lexLt_cons_nil]
            exact (decide_eq_false (by omega)).symm
          | cons c u hw =>
            rw [List.zip_cons_cons] at hz
            cases hz
      rw [hv] at hR
      wp_walk
      exact ⟨_, rfl, by simpa [Builtin.Tuple.tupleCompareSizes] using hR⟩
    case h =>
      exact ⟨rfl, rfl, items.toList, items2.toList, ns, ms, rfl, hi, hj, by omega, h⟩
end

section
variable {prog : Program} {w : World} {A : Around} {E : Value → Shared → Prop} {s : Shared}

theorem lt_tupInts {l b : Addr} {items items2 : Array Value} {ns ms : List Int} {Q : Value → Shared → Prop} (hl : IsTup s.heap l items) (hb : IsTup s.heap b items2) (hi : IntsAre items.toList ns) (hj : IntsAre items2.toList ms)
    (hu : A.units < cLine) (h : Q (.bool (lexLt ns ms)) s) : wpAny (model prog w) A (compareOp .Lt (.ref l) (.ref b)) Q E s := by
  obtain ⟨⟨cls, dd, data, sl⟩, ho, hc, n, hd⟩ := id hl
  obtain ⟨⟨cls2, dd2, data2, sl2⟩, ho2, hc2, n2, hd2⟩ := id hb
  simp only at hc hd hc2 hd2
  subst hc hd hc2 hd2
  exact richCompare_meets_room (op := .Lt) ⟨_, ho, rfl⟩ ⟨_, ho2, rfl⟩ PySem.F.slot_tuple_lt PySem.F.entry_tuple_lt (PySem.F.args_tuple_lt_2 _ _) (tuple_lt_ints l b items items2 n n2 dd dd2 sl sl2 ns ms hi hj)
    ⟨ho, ho2, show Value.bool (lexLt ns ms) ≠ Value.notImplemented ∧ Q (.bool (lexLt ns ms)) s from ⟨(fun x => nomatch x), h⟩⟩ hu

/-- t + u, t not empty -/
theorem cat_tup {t b : Addr} {vs ws : List Value} {Q : Value → Shared → Prop} (ht : IsTup s.heap t vs.toArray) (hb : IsTup s.heap b ws.toArray) (hv : vs ≠ [])
    (h1 : ws = [] → Q (.ref t) s) (h2 : ws ≠ [] → Q (.ref s.heap.objs.size) { s with heap := s.heap.push { cls := .type "tuple", data := .seq (vs ++ ws).toArray } })
    (hsz : vs.length + ws.length ≤ sizeLine) : wpAny (model prog w) A (binaryOp .Add (.ref t) (.ref b)) Q E s := by
  obtain ⟨⟨cls, dd, data, sl⟩, ho, hc, n, hd⟩ := id ht
  obtain ⟨⟨cls2, dd2, data2, sl2⟩, ho2, hc2, n2, hd2⟩ := id hb
  simp only at hc hd hc2 hd2
  subst hc hd hc2 hd2
  have e : vs.toArray ++ ws.toArray = (vs ++ ws).toArray := by simp
  by_cases hw : ws = []
  · exact concat_meets ⟨_, ho, rfl⟩ ⟨_, ho2, rfl⟩ noFill_tuple_add seq_tuple_add PySem.F.slot_tuple_add PySem.F.entry_tuple_add (PySem.F.args_tuple_add_2 _ _)
      (tuple_addW1 t b vs.toArray ws.toArray n n2 dd dd2 sl sl2 (by simpa using hv) (by simp [hw])) ⟨ho, ho2, h1 hw⟩
  · refine concat_meets ⟨_, ho, rfl⟩ ⟨_, ho2, rfl⟩ noFill_tuple_add seq_tuple_add PySem.F.slot_tuple_add PySem.F.entry_tuple_add (PySem.F.args_tuple_add_2 _ _)
      (tuple_addW2 t b vs.toArray ws.toArray n n2 dd dd2 sl sl2 (by simpa using hv) (by simpa using hw) (by rw [List.size_toArray, List.size_toArray]; exact hsz)) ⟨ho, ho2, ?_⟩
    rw [e]
    exact h2 hw

/-! ### t[a:b], not the whole -/
/-- a slice's bound as a place among n (d where it is left out) -/
def sIx (n d : Nat) : Option Int → Nat
  | none => d
  | some v => if v < 0 then (v + (n : Int)).toNat else min v.toNat n
theorem sIx_none (n d : Nat) : sIx n d none = d := rfl
theorem sIx_nat (n d k : Nat) : sIx n d (some (k : Int)) = min k n := by
  show (if (k : Int) < 0 then ((k : Int) + (n : Int)).toNat else min (k : Int).toNat n) = min k n
  rw [if_neg (by omega), Int.toNat_natCast]
theorem sIx_le (n d : Nat) (hd : d ≤ n) (o : Option Int) : sIx n d o ≤ n := by
  cases o with
  | none => exact hd
  | some v =>
    show (if v < 0 then (v + (n : Int)).toNat else min v.toNat n) ≤ n
    by_cases hv : v < 0
    · rw [if_pos hv]; omega
    · rw [if_neg hv]; exact Nat.min_le_right _ _
theorem clip_eq (v : Int) (n d : Nat) : (if v < 0 then max (v + (n : Int)) 0 else min v (n : Int)) = ((sIx n d (some v) : Nat) : Int) := by
  show (if v < 0 then max (v + (n : Int)) 0 else min v (n : Int)) = (((if v < 0 then (v + (n : Int)).toNat else min v.toNat n) : Nat) : Int)
  by_cases hv : v < 0
  · simp only [if_pos hv]; omega
  · simp only [if_neg hv]; omega
theorem adjust_gen (lo hi : Option Int) (n : Nat) : Builtin.Slice.sliceAdjust lo hi 1 (n : Int) = (((sIx n 0 lo : Nat) : Int), ((sIx n n hi : Nat) : Int)) := by
  have h1 : ¬ ((1 : Int) < 0) := by omega
  unfold Builtin.Slice.sliceAdjust
  simp only [h1, if_false]
  refine Prod.ext ?_ ?_
  · cases lo with
    | none => rfl
    | some v => exact clip_eq v n 0
  · cases hi with
    | none => rfl
    | some v => exact clip_eq v n n
theorem places_gen (i j : Nat) : Builtin.Slice.slicePlaces (i : Int) (j : Int) 1 = j - i := by
  unfold Builtin.Slice.slicePlaces
  have h1 : (1 : Int) > 0 := by omega
  simp only [h1, if_true, Int.ediv_one]
  split <;> omega
theorem slicePart_ {v : Value} {o : Option Int} {Q : Option Int → Shared → Prop} (p : IsPart v o) (h : Q o s) : wpAny (model prog w) A (Builtin.Slice.slicePartIndex v) Q E s := by
  cases p with
  | none => exact slicePart_none h
  | int i t => exact slicePart_int h
theorem sliceApplied_gen {sl : Addr} {vl vu : Value} {lo hi : Option Int} {n : Nat} {Q : Int × Int × Nat → Shared → Prop} (hs : s.heap.IsSliceOf sl vl vu .none) (pl : IsPart vl lo) (pu : IsPart vu hi)
    (h : Q (((sIx n 0 lo : Nat) : Int), 1, sIx n n hi - sIx n 0 lo) s) : wpAny (model prog w) A (Builtin.Slice.sliceApplied (.ref sl) (pure (n : Int))) Q E s := by
  obtain ⟨os, hos, hcs, hds⟩ := id hs
  unfold Builtin.Slice.sliceApplied Builtin.Slice.sliceFields
  refine wpAny_bind (wpAny_bind (wpAny_field hos hds (x := vl) rfl (wpAny_bind (wpAny_field hos hds (x := vu) rfl (wpAny_bind (wpAny_field hos hds (x := .none) rfl (wpAny_pure ?_)))))))
  refine wpAny_bind (slicePart_none ?_)
  show wpAny _ _ (if ((1 : Int) == 0) = true then _ else _) _ _ s
  rw [if_neg (by decide)]
  refine wpAny_bind (slicePart_ pl (wpAny_bind (slicePart_ pu (wpAny_bind (wpAny_pure ?_)))))
  show wpAny _ _ (match Builtin.Slice.sliceAdjust lo hi 1 (n : Int) with | (lo, hi) => pure (lo, (1 : Int), Builtin.Slice.slicePlaces lo hi 1)) _ _ s
  rw [adjust_gen lo hi n]
  show wpAny _ _ (pure (((sIx n 0 lo : Nat) : Int), (1 : Int), Builtin.Slice.slicePlaces ((sIx n 0 lo : Nat) : Int) ((sIx n n hi : Nat) : Int) 1)) _ _ s
  rw [places_gen]
  exact wpAny_pure h
theorem pick_gen (xs : Array Value) (i k : Nat) : ((List.range k).filterMap fun (m : Nat) => xs[((i : Int) + (m : Int) * 1).toNat]?).toArray = ((xs.toList.drop i).take k).toArray := by
  have e : (fun (m : Nat) => xs[((i : Int) + (m : Int) * 1).toNat]?) = fun m => xs[i + m]? := by
    funext m
    have : ((i : Int) + (m : Int) * 1).toNat = i + m := by omega
    rw [this]
  rw [e]
  have := pick_run xs i k
  rw [List.filterMap_map] at this
  have e2 : ((fun x => xs[x]?) ∘ fun x => i + x) = fun m => xs[i + m]? := rfl
  rw [e2] at this
  rw [this]

theorem getItem_tuple_cut {t sl : Addr} {items : Array Value} {vl vu : Value} {lo hi : Option Int} {Q : Value → Shared → Prop} (ht : IsTup s.heap t items) (hs : s.heap.IsSliceOf sl vl vu .none) (pl : IsPart vl lo) (pu : IsPart vu hi)
    (hw : ¬ (sIx items.size 0 lo = 0 ∧ sIx items.size items.size hi = items.size))
    (h : Q (.ref s.heap.objs.size) { s with heap := s.heap.push { cls := .type "tuple", data := .seq ((items.toList.drop (sIx items.size 0 lo)).take (sIx items.size items.size hi - sIx items.size 0 lo)).toArray } })
    (hsz : items.size ≤ sizeLine) : wpAny (model prog w) A (getItem (.ref t) (.ref sl)) Q E s := by
  have htake : sizeOk (.seq ((items.toList.drop (sIx items.size 0 lo)).take (sIx items.size items.size hi - sIx items.size 0 lo)).toArray) := by
    show ((items.toList.drop (sIx items.size 0 lo)).take (sIx items.size items.size hi - sIx items.size 0 lo)).toArray.size ≤ sizeLine
    rw [List.size_toArray, List.length_take, List.length_drop, Array.length_toList]
    omega
  have hj : sIx items.size items.size hi ≤ items.size := sIx_le _ _ (Nat.le_refl _) hi
  obtain ⟨os, hos, hcs, hds⟩ := id hs
  have hTs : s.TypeIs (.ref sl) "slice" := ⟨os, hos, hcs⟩
  unfold getItem
  try with_reducible refine wpAny_holding ?_
  first | refine wpAny_bind (wpAny_pure ?_) | skip
  refine wpAny_bind (wpAny_sequenceKey ht.typeIs (by decide) ?_)
  refine wpAny_bind (wpAny_callSpecial?_slot (name := Str.ofString "__getitem__") ht.typeIs PyProof.Rows.slot_tuple_getitem
    (wpAny_call_entry PyProof.Rows.slot_tuple_getitem ht.typeIs entry_tuple_getitem ?_ (args_tuple_getitem _ _)))
  show wpAny _ _ (Builtin.Tuple.tupleItemsOf (.ref t) >>= _) _ _ s
  refine wpAny_bind (tupleItemsOf_ ht ?_)
  refine wpAny_bind (wpAny_typeOf hTs ?_)
  rw [if_pos (by decide)]
  refine wpAny_bind (sliceApplied_gen hs pl pu ?_)
  have hno : ¬ ((((sIx items.size 0 lo : Nat) : Int) == 0 && (1 : Int) == 1 && (sIx items.size items.size hi - sIx items.size 0 lo) == items.size) = true) := by
    intro q
    rw [Bool.and_eq_true, Bool.and_eq_true] at q
    have q1 : ((sIx items.size 0 lo : Nat) : Int) = 0 := eq_of_beq q.1.1
    have q2 : sIx items.size items.size hi - sIx items.size 0 lo = items.size := eq_of_beq q.2
    exact hw ⟨by omega, by omega⟩
  show wpAny _ _ (if (((sIx items.size 0 lo : Nat) : Int) == 0 && (1 : Int) == 1 && (sIx items.size items.size hi - sIx items.size 0 lo) == items.size) = true then _ else _) _ _ s
  rw [if_neg hno, pick_gen]
  first
    | exact wpAny_bind (m := Builtin.Tuple.tupleExact _) (wpAny_newObj_type (wpAny_pure ⟨_, rfl, wpAny_pure h⟩) htake)
    | exact wpAny_bind (m := Builtin.Tuple.tupleExact _) (wpAny_newObj_type (wpAny_bind (wpAny_pure (wpAny_pure ⟨_, rfl, wpAny_pure h⟩))) htake)
    | exact wpAny_bind (wpAny_bind (m := Builtin.Tuple.tupleExact _) (wpAny_newObj_type (wpAny_pure (wpAny_pure ⟨_, rfl, wpAny_pure h⟩)) htake))
    | exact wpAny_bind (wpAny_bind (m := Builtin.Tuple.tupleExact _) (wpAny_newObj_type (wpAny_pure ⟨_, rfl, wpAny_pure h⟩) htake))
end
end HT

namespace L2
open PySem PySem.Spec PyProof.Rows

/-! ### the parts of a slice -/
abbrev TO := St → Hp → (Option Int → Hp → Prop) → Prop
/-- a slice's part (left out, or an int) -/
def PO (X : Cx) (e : Option Expr) (t : TO) : Prop :=
  ∀ (pins : List (Addr × Obj)) (s : Shared) (σ : St) (H : Hp) (Q : Option Int → Hp → Prop), Inv X pins σ H s → t σ H Q →
    wpAny (model X.prog X.w) X.A (evalPart e X.env) (fun u s' => ∃ o H', Inv X pins σ H' s' ∧ IsPart u o ∧ Q o H') X.xe s
def tNoPart : TO := fun _ H Q => Q none H
def tPart (t : TE) : TO := fun σ H Q => t σ H fun x H1 => ∃ i, x = .int i ∧ Q (some i) H1

theorem intsAre_of {ns : List Int} : ∀ {us : List Value}, Vals (ns.map V.int) us → IntsAre us ns := by
  induction ns with
  | nil => intro us r; rw [List.map_nil] at r; cases r; exact .nil
  | cons n ns ih =>
    intro us r
    rw [List.map_cons] at r
    cases r with
    | cons r1 r2 =>
      obtain ⟨t, e⟩ := r1
      subst e
      exact .cons n t (ih r2)

section
variable {X : Cx} {e : Expr} {te : TE} {lo hi : Option Expr} {tl th : TO} {pos p2 : Pos}

theorem po_none : PO X none tNoPart := by
  intro pins s σ H Q I h
  rw [evalPart_none]
  exact wpAny_pure ⟨none, H, I, .none, h⟩
theorem po_some (h : PE X e te) : PO X (some e) (tPart te) := by
  intro pins s σ H Q I hw
  rw [evalPart_some]
  refine thn (h pins s σ H _ I hw) fun u s1 ⟨x, H1, I1, r1, q1⟩ => ?_
  obtain ⟨i, rfl, q⟩ := q1
  obtain ⟨t, rfl⟩ := r1
  exact ⟨some i, H1, I1, .int i t, q⟩

/-- what a slice of a value is, by values: the slice object stands at sl -/
def SlR (X : Cx) (r : V → Option Int → Option Int → Hp → VK → Prop) : Prop :=
  ∀ (pins : List (Addr × Obj)) (s : Shared) (σ : St) (H : Hp) (x : V) (v vl vu : Value) (lo hi : Option Int) (sl : Addr) (Q : VK), Inv X pins σ H s → RelV x v → s.heap.IsSliceOf sl vl vu .none → IsPart vl lo → IsPart vu hi → r x lo hi H Q →
    ∃ T id, typeLookup (.type T) "__getitem__" = pure (some (.builtin id)) ∧ s.TypeIs v T ∧ wpAny (model X.prog X.w) X.A (getItem v (.ref sl)) (EP X pins σ Q) X.xe s
theorem SlR.or {r r' : V → Option Int → Option Int → Hp → VK → Prop} (h : SlR X r) (h' : SlR X r') : SlR X (fun x lo hi H Q => r x lo hi H Q ∨ r' x lo hi H Q) := by
  intro pins s σ H x v vl vu lo hi sl Q I rx hs pl pu q
  rcases q with q | q
  · exact h pins s σ H x v vl vu lo hi sl Q I rx hs pl pu q
  · exact h' pins s σ H x v vl vu lo hi sl Q I rx hs pl pu q
def tSl (r : V → Option Int → Option Int → Hp → VK → Prop) (te : TE) (tl th : TO) : TE := fun σ H Q => te σ H fun x H1 => tl σ H1 fun l H2 => th σ H2 fun u H3 => r x l u H3 Q
/-- a[lo:hi], any a -/
theorem pe_slice {r : V → Option Int → Option Int → Hp → VK → Prop} (hr : SlR X r) (he : PE X e te) (hl : PO X lo tl) (hu : PO X hi th) : PE X (.Subscript e (.Slice lo hi none p2) pos) (tSl r te tl th) := by
  intro pins s σ H Q I h
  refine Subscript_ (thn (he pins s σ H _ I h) fun v s1 ⟨x, H1, I1, r1, q1⟩ => ?_)
  refine wpAny_Slice (thn (hl pins s1 σ H1 _ I1 q1) fun vl s2 ⟨l, H2, I2, pl, q2⟩ => thn (hu pins s2 σ H2 _ I2 q2) fun vu s3 ⟨u, H3, I3, pu, q3⟩ => ?_)
  rw [evalPart_none]
  refine wpAny_pure ?_
  have I4 : Inv X pins σ H3 { s3 with heap := s3.heap.push { cls := .type "slice", data := .fields #[vl, vu, .none] } } := I3.kept (t' := s3.toks) fun b ob q => Heap.get?_push_of_some _ q
  obtain ⟨T, id, hT, ht, hg⟩ := hr pins { s3 with heap := s3.heap.push { cls := .type "slice", data := .fields #[vl, vu, .none] } } σ H3 x v vl vu l u s3.heap.objs.size Q I4 r1 (Heap.IsSliceOf.new ..) pl pu q3
  show wpAny (model X.prog X.w) X.A (subscriptTail e (.Slice lo hi none p2) v (.ref s3.heap.objs.size)) (EP X pins σ Q) X.xe { s3 with heap := s3.heap.push { cls := .type "slice", data := .fields #[vl, vu, .none] } }
  exact tail_any (ops := [.ref s3.heap.objs.size, v]) ht hT hg (by with_unfolding_all rfl)

/-- the items of xs[lo:hi] -/
def cutV (xs : List V) (lo hi : Option Int) : List V := (xs.drop (HT.sIx xs.length 0 lo)).take (HT.sIx xs.length xs.length hi - HT.sIx xs.length 0 lo)
theorem cutV_length (xs : List V) (lo hi : Option Int) : (cutV xs lo hi).length ≤ xs.length := by
  unfold cutV
  rw [List.length_take, List.length_drop]
  omega
/-- t[lo:hi], not the whole of it (the whole would be t itself) -/
def rSlT (K : PySem.W.Frag) : V → Option Int → Option Int → Hp → VK → Prop := fun x lo hi H Q => ∃ a xs, x = .ref a ∧ SqT K H a xs ∧
  ¬ (HT.sIx xs.length 0 lo = 0 ∧ HT.sIx xs.length xs.length hi = xs.length) ∧ ∀ p, H p = none → Q (.ref p) (upd H p (.tup (cutV xs lo hi)))
theorem sl_tup : SlR X (rSlT X.K) := by
  intro pins s σ H x v vl vu lo hi sl Q I rx hs pl pu h
  obtain ⟨a, xs, rfl, hx, hw, q⟩ := h
  cases rx
  obtain ⟨its, r, ht, hz⟩ := I.tuple hx
  have hlen : its.toArray.size = xs.length := by rw [List.size_toArray]; exact r.length.symm
  refine ⟨"tuple", _, PyProof.Rows.slot_tuple_getitem.lookup, ht.typeIs, ?_⟩
  refine HT.getItem_tuple_cut ht hs pl pu (by rw [hlen]; exact hw) ?_ (by rw [hlen]; exact hz)
  rw [hlen]
  refine ⟨.ref s.heap.objs.size, _, I.laid (t' := s.toks) (o := .tup (cutV xs lo hi)) (fun b ob q => Heap.get?_push_of_some _ q) (Nat.le_refl _) ?_, rfl, q _ (I.hok.fresh (Nat.le_refl _))⟩
  exact ⟨Nat.le_trans (cutV_length xs lo hi) hz, _, (r.drop (HT.sIx xs.length 0 lo)).take (HT.sIx xs.length xs.length hi - HT.sIx xs.length 0 lo), IsTup.new _ _⟩

/-! ### t < u, t + u -/
def rLtT (K : PySem.W.Frag) : R2 := fun x y H Q => ∃ a b ns ms, x = .ref a ∧ y = .ref b ∧ SqT K H a (ns.map V.int) ∧ SqT K H b (ms.map V.int) ∧ Q (.bl (HT.lexLt ns ms)) H
theorem op_ltT (hu : X.A.units < cLine) : OpR X (compareOp .Lt) (rLtT X.K) := by
  intro pins s σ H x y v u Q I rx ry h
  obtain ⟨a, b, ns, ms, rfl, rfl, ha, hb, q⟩ := h
  cases rx
  cases ry
  obtain ⟨its, r1, p1, _⟩ := I.tuple ha
  obtain ⟨its2, r2, p2, _⟩ := I.tuple hb
  have i1 : IntsAre its.toArray.toList ns := intsAre_of r1
  have i2 : IntsAre its2.toArray.toList ms := intsAre_of r2
  exact HT.lt_tupInts p1 p2 i1 i2 hu ⟨.bl (HT.lexLt ns ms), H, I, rfl, q⟩
/-- t + u, t not empty: u empty gives t itself -/
def rCatT (K : PySem.W.Frag) : R2 := fun x y H Q => ∃ a b xs ys, x = .ref a ∧ y = .ref b ∧ SqT K H a xs ∧ SqT K H b ys ∧ xs ≠ [] ∧ xs.length + ys.length ≤ sizeLine ∧
  (ys = [] → Q (.ref a) H) ∧ (ys ≠ [] → ∀ p, H p = none → Q (.ref p) (upd H p (.tup (xs ++ ys))))
theorem Vals.nil_iff {xs : List V} {us : List Value} (r : Vals xs us) : us = [] ↔ xs = [] := by
  cases r with
  | nil => simp
  | cons _ _ => simp
theorem op_catT : OpR X (binaryOp .Add) (rCatT X.K) := by
  intro pins s σ H x y v u Q I rx ry h
  obtain ⟨a, b, xs, ys, rfl, rfl, ha, hb, hx, hz, q1, q2⟩ := h
  cases rx
  cases ry
  obtain ⟨its, r1, p1, _⟩ := I.tuple ha
  obtain ⟨its2, r2, p2, _⟩ := I.tuple hb
  refine HT.cat_tup p1 p2 (fun z => hx (r1.nil_iff.mp z)) (fun z => ⟨.ref a, H, I, rfl, q1 (r2.nil_iff.mp z)⟩) (fun z => ?_) (by rw [← r1.length, ← r2.length]; exact hz)
  refine ⟨.ref s.heap.objs.size, _, I.laid (t' := s.toks) (o := .tup (xs ++ ys)) (fun b ob q => Heap.get?_push_of_some _ q) (Nat.le_refl _) ?_, rfl, q2 (fun w => z (r2.nil_iff.mpr w)) _ (I.hok.fresh (Nat.le_refl _))⟩
  exact ⟨by rw [List.length_append]; exact hz, _, r1.append r2, IsTup.new _ _⟩
/-- tuple(t) -/
theorem call_tupleT : CallR X (.type "tuple") (fun xs H Q => ∃ a ys, xs = [.ref a] ∧ SqT X.K H a ys ∧ Q (.ref a) H) := by
  intro pins s σ H xs us Q I r h
  obtain ⟨a, ys, rfl, ha, q⟩ := h
  obtain ⟨u, rfl, ru⟩ := vals1 r
  cases ru
  obtain ⟨its, _, p1, _⟩ := I.tuple ha
  exact call_tuple_same (items := its.toArray) p1 ⟨.ref a, H, I, rfl, q⟩
end
end L2

namespace L2
open PySem PySem.Spec PyProof.Rows

/-! ### places -/
/-- the place that an index of any sign means -/
def ixN (n : Nat) (i : Int) : Option Nat := if 0 ≤ i then (if i < n then some i.toNat else none) else if -(n : Int) ≤ i then some (i + n).toNat else none
def atI {α : Type} (xs : List α) (i : Int) : Option α := (ixN xs.length i).bind fun j => xs[j]?
theorem ixN_seq {n : Nat} {i : Int} {j : Nat} (h : ixN n i = some j) : seqIndex? i n = some j ∧ j < n ∧ -(n : Int) ≤ i ∧ i < n := by
  unfold ixN at h
  by_cases h0 : 0 ≤ i
  · rw [if_pos h0] at h
    by_cases h1 : i < n
    · rw [if_pos h1] at h
      have e : i.toNat = j := Option.some.inj h
      exact ⟨by rw [seqIndex_of h0 h1, e], by omega, by omega, h1⟩
    · rw [if_neg h1] at h; cases h
  · rw [if_neg h0] at h
    by_cases h1 : -(n : Int) ≤ i
    · rw [if_pos h1] at h
      have e : (i + n).toNat = j := Option.some.inj h
      exact ⟨by rw [seqIndex_neg (by omega) h1, e], by omega, h1, by omega⟩
    · rw [if_neg h1] at h; cases h
theorem atI_get {α : Type} {xs : List α} {i : Int} {v : α} (h : atI xs i = some v) : ∃ j, seqIndex? i xs.length = some j ∧ xs[j]? = some v ∧ j < xs.length ∧ -(xs.length : Int) ≤ i ∧ i < xs.length := by
  unfold atI at h
  cases e : ixN xs.length i with
  | none => rw [e] at h; cases h
  | some j =>
    rw [e] at h
    obtain ⟨h1, h2, h3, h4⟩ := ixN_seq e
    exact ⟨j, h1, h, h2, h3, h4⟩
theorem atI_nat {α : Type} {xs : List α} {j : Nat} {v : α} (h : xs[j]? = some v) : atI xs (j : Int) = some v := by
  have hj : j < xs.length := (List.getElem?_eq_some_iff.mp h).1
  have e : ixN xs.length (j : Int) = some j := by
    unfold ixN
    rw [if_pos (by omega), if_pos (by omega)]; simp
  unfold atI; rw [e]; exact h
theorem atI_last {α : Type} (xs : List α) (v : α) : atI (xs ++ [v]) (-1) = some v := by
  have hl : (xs ++ [v]).length = xs.length + 1 := by simp
  have e : ixN (xs ++ [v]).length (-1) = some xs.length := by
    unfold ixN
    rw [hl, if_neg (by decide), if_pos (by omega)]
    congr 1
    omega
  unfold atI
  rw [e]
  show (xs ++ [v])[xs.length]? = some v
  simp

/-! ### what may be subscripted -/
/-- what stands as an index of a plain subscript -/
def PlainIx (b : Expr) : Prop := ∀ o i, subscripted b false o i = operate [o, i] (getItem o i)
/-- a subscript by values -/
def IxR (X : Cx) (r : R2) : Prop :=
  ∀ (value slice : Expr) (pins : List (Addr × Obj)) (s : Shared) (σ : St) (H : Hp) (x y : V) (v u : Value) (Q : VK), Inv X pins σ H s → RelV x v → RelV y u → r x y H Q →
    subscripted slice false v u = operate [v, u] (getItem v u) → wpAny (model X.prog X.w) X.A (subscriptTail value slice v u) (EP X pins σ Q) X.xe s
/-- a call of a builtin's method by values: the receiver, the arguments -/
def MtR (X : Cx) (id : String) (r : V → List V → Hp → VK → Prop) : Prop :=
  ∀ (pins : List (Addr × Obj)) (s : Shared) (σ : St) (H : Hp) (x : V) (xs : List V) (v : Value) (us : List Value) (Q : VK), Inv X pins σ H s → RelV x v → Vals xs us → r x xs H Q →
    wpAny (model X.prog X.w) X.A (call (.builtin id) (v :: us)) (EP X pins σ Q) X.xe s
section
variable {X : Cx} {a b : Expr} {ta tb : TE} {pos : Pos}
theorem IxR.or {r r' : R2} (h : IxR X r) (h' : IxR X r') : IxR X (fun x y H Q => r x y H Q ∨ r' x y H Q) := by
  intro value slice pins s σ H x y v u Q I rx ry q hs
  rcases q with q | q
  · exact h value slice pins s σ H x y v u Q I rx ry q hs
  · exact h' value slice pins s σ H x y v u Q I rx ry q hs
theorem MtR.or {id : String} {r r' : V → List V → Hp → VK → Prop} (h : MtR X id r) (h' : MtR X id r') : MtR X id (fun x xs H Q => r x xs H Q ∨ r' x xs H Q) := by
  intro pins s σ H x xs v us Q I rx rs q
  rcases q with q | q
  · exact h pins s σ H x xs v us Q I rx rs q
  · exact h' pins s σ H x xs v us Q I rx rs q
/-- a[b] -/
theorem pe_ix {r : R2} (hr : IxR X r) (ha : PE X a ta) (hb : PE X b tb) (hs : PlainIx b) : PE X (.Subscript a b pos) (tOp r ta tb) := by
  intro pins s σ H Q I h
  exact Subscript_ (binT ha hb I h fun v u s2 x y H2 I2 rx ry q => hr a b pins s2 σ H2 x y v u Q I2 rx ry q (hs _ _))

def rIxL (K : PySem.W.Frag) : R2 := fun x y H Q => ∃ p xs i v, x = .ref p ∧ y = .int i ∧ SqL K H p xs ∧ atI xs i = some v ∧ Q v H
def rIxT (K : PySem.W.Frag) : R2 := fun x y H Q => ∃ p xs i v, x = .ref p ∧ y = .int i ∧ SqT K H p xs ∧ atI xs i = some v ∧ Q v H
def rIxS : R2 := fun x y H Q => ∃ z i c, x = .str z ∧ y = .int i ∧ z.length ≤ sizeLine ∧ atI z.cps.toList i = some c ∧ Q (.str ⟨#[c]⟩) H
theorem ix_list : IxR X (rIxL X.K) := by
  intro value slice pins s σ H x y v u Q I rx ry h hs
  obtain ⟨p, xs, i, z, rfl, rfl, hq, he, q⟩ := h
  cases rx
  obtain ⟨t, rfl⟩ := ry
  obtain ⟨its, r, pl, hz⟩ := I.list hq
  obtain ⟨j, h1, h2, h3, h4, h5⟩ := atI_get he
  obtain ⟨w, ew, rw'⟩ := r.get h2
  have hl := r.length
  have hn := line63
  have fin : EP X pins σ Q w s := ⟨z, H, I, rw', q⟩
  by_cases h0 : 0 ≤ i
  · have hj : i.toNat = j := by
      rw [seqIndex_of h0 h5] at h1
      exact Option.some.inj h1
    exact item_listR pl.isList h0 (by omega) (by rw [hj]; simpa using ew) fin hs
  · have hj : (i + (its.toArray.size : Int)).toNat = j := by
      rw [seqIndex_neg (by omega) h4] at h1
      rw [List.size_toArray, ← hl]
      exact Option.some.inj h1
    exact subscriptTail_builtinR (x := w) pl.isList.typeIs slot_list_getitem.lookup
      (wpAny_getItem_list_neg (Q := fun r s' => r = w ∧ EP X pins σ Q r s') pl.isList (by omega) (by rw [List.size_toArray] <;> omega) (by omega) (by rw [hj]; simpa using ew) ⟨rfl, fin⟩) hs
theorem ix_tup : IxR X (rIxT X.K) := by
  intro value slice pins s σ H x y v u Q I rx ry h hs
  obtain ⟨p, xs, i, z, rfl, rfl, hq, he, q⟩ := h
  cases rx
  obtain ⟨t, rfl⟩ := ry
  obtain ⟨its, r, pl, hz⟩ := I.tuple hq
  obtain ⟨j, h1, h2, h3, h4, h5⟩ := atI_get he
  obtain ⟨w, ew, rw'⟩ := r.get h2
  have hl := r.length
  have hn := line63
  have fin : EP X pins σ Q w s := ⟨z, H, I, rw', q⟩
  exact subscriptTail_builtinR (x := w) pl.typeIs slot_tuple_getitem.lookup
    (getItem_tuple (j := j) (Q := fun r s' => r = w ∧ EP X pins σ Q r s') pl (by omega) (by omega) (by rw [List.size_toArray, ← hl]; exact h1) (by simpa using ew) ⟨rfl, fin⟩) hs
theorem ix_str : IxR X rIxS := by
  intro value slice pins s σ H x y v u Q I rx ry h hs
  obtain ⟨z, i, c, rfl, rfl, hz, he, q⟩ := h
  obtain ⟨t, rfl⟩ := rx
  obtain ⟨t', rfl⟩ := ry
  obtain ⟨j, h1, h2, h3, h4, h5⟩ := atI_get he
  have hl : z.cps.toList.length = z.length := by simp [Str.length]
  rw [hl] at h1 h4 h5
  have hn := line63
  exact tail_any (typeIs_str s z t) slot_str_getitem.lookup (getItem_str (c := c) (by
    have e1 : decide (i < -(2 ^ 63 : Int)) = false := decide_eq_false (by omega)
    have e2 : decide (i ≥ 2 ^ 63) = false := decide_eq_false (by omega)
    rw [e1, e2, Bool.or_false]) (by rw [h1]; simpa using h2) ⟨.str ⟨#[c]⟩, H, I.tok _, ⟨_, rfl⟩, q⟩) hs
/-- list, tuple or str -/
def rIx (K : PySem.W.Frag) : R2 := fun x y H Q => rIxL K x y H Q ∨ rIxT K x y H Q ∨ rIxS x y H Q
theorem ix_seq : IxR X (rIx X.K) := ix_list.or (ix_tup.or ix_str)

/-! ### xs[i] = v, any sign -/
/-- the list's object behind a store -/
theorem mapSeq_set (its : List Value) (n j : Nat) (u : Value) : Obj.mapSeq (·.setIfInBounds j u) { cls := .type "list", data := .seq its.toArray n } = { cls := .type "list", data := .seq (its.set j u).toArray n } := by
  simp [Obj.mapSeq]
theorem Inv.lst {pins : List (Addr × Obj)} {σ : St} {H : Hp} {s : Shared} {p : Addr} {xs : List V} (I : Inv X pins σ H s) (h : H p = some (.lst xs)) :
    ∃ (its : List Value) (n : Nat), Vals xs its ∧ s.heap.get? p = some { cls := .type "list", data := .seq its.toArray n } ∧ xs.length ≤ sizeLine := by
  obtain ⟨z, its, n, r, e⟩ := I.hok p _ h
  exact ⟨its, n, r, e, z⟩
/-- the list at p is written by an update of its object -/
theorem Inv.lstUpd {pins : List (Addr × Obj)} {σ : St} {H : Hp} {s : Shared} {p : Addr} {xs ys : List V} {its its' : List Value} {n n' : Nat} {f : Obj → Obj} (I : Inv X pins σ H s) (h : H p = some (.lst xs))
    (ho : s.heap.get? p = some { cls := .type "list", data := .seq its.toArray n }) (hf : f { cls := .type "list", data := .seq its.toArray n } = { cls := .type "list", data := .seq its'.toArray n' }) (r : Vals ys its') (hz : ys.length ≤ sizeLine) (t : Nat) :
    Inv X pins σ (upd H p (.lst ys)) { s with heap := s.heap.update p f, toks := t } := by
  have e : (s.heap.update p f).get? p = some { cls := .type "list", data := .seq its'.toArray n' } := by
    rw [Heap.get?_update_self f ho (by rw [hf] <;> rfl), hf]
  refine I.write (x := p) (e := p) (by rw [h]; trivial) (.inl rfl) (fun b u hb q => (Heap.get?_update_other _ _ (Ne.symm hb)).trans q) ⟨_, e⟩ ?_
  exact ⟨hz, its', n', r, e⟩
def rSetL : V → V → V → Hp → (Hp → Prop) → Prop := fun o i v H Q => ∃ p xs k j, o = .ref p ∧ i = .int k ∧ H p = some (.lst xs) ∧ ixN xs.length k = some j ∧ Q (upd H p (.lst (xs.set j v)))
theorem set_list : PSet X rSetL := by
  intro pins s σ H o i v ov iv u Q I ro ri rv h
  obtain ⟨p, xs, k, j, rfl, rfl, hp, hj, q⟩ := h
  cases ro
  obtain ⟨t, rfl⟩ := ri
  obtain ⟨its, n, r, ho, hz⟩ := I.lst hp
  obtain ⟨h1, h2, h3, h4⟩ := ixN_seq hj
  have hl := r.length
  have hn := line63
  have I' : Inv X pins σ (upd H p (.lst (xs.set j v))) { s with heap := s.heap.update p (Obj.mapSeq (·.setIfInBounds j u)) } :=
    I.lstUpd hp ho (mapSeq_set its n j u) (r.set rv j) (by rw [List.length_set]; exact hz) s.toks
  by_cases h0 : 0 ≤ k
  · have hk : k.toNat = j := by
      rw [seqIndex_of h0 h4] at h1
      exact Option.some.inj h1
    exact PySem.W.ki_setAt ho h0 (by omega) (by rw [List.size_toArray, ← hl]; exact h4) (by rw [hk]; exact ⟨_, I', q⟩)
  · have hk : (k + (its.toArray.size : Int)).toNat = j := by
      rw [seqIndex_neg (by omega) h3] at h1
      rw [List.size_toArray, ← hl]
      exact Option.some.inj h1
    exact PySem.W.ki_setBack ho (by omega) (by rw [List.size_toArray, ← hl]; exact h3) (by omega) (by rw [hk]; exact ⟨_, I', q⟩)

/-! ### slices -/
theorem slice_bounds (lo hi : Option Int) (n : Nat) : (sliceBounds lo hi none n).1 = ((HT.sIx n 0 lo : Nat) : Int) ∧ (sliceBounds lo hi none n).2.1 = ((HT.sIx n n hi : Nat) : Int) ∧ (sliceBounds lo hi none n).2.2 = 1 := by
  refine ⟨?_, ?_, rfl⟩
  · cases lo with
    | none => simp [sliceBounds, HT.sIx]
    | some i =>
      simp only [sliceBounds, HT.sIx, Option.getD_none, show (1 : Int) > 0 by decide, if_true]
      by_cases h : i < 0
      · simp only [h, if_true] <;> omega
      · simp only [h, if_false] <;> omega
  · cases hi with
    | none => simp [sliceBounds, HT.sIx]
    | some i =>
      simp only [sliceBounds, HT.sIx, Option.getD_none, show (1 : Int) > 0 by decide, if_true]
      by_cases h : i < 0
      · simp only [h, if_true] <;> omega
      · simp only [h, if_false] <;> omega
theorem slicePick_cut (its : List Value) (lo hi : Option Int) : slicePick its.toArray lo hi none = ((its.drop (HT.sIx its.length 0 lo)).take (HT.sIx its.length its.length hi - HT.sIx its.length 0 lo)).toArray := by
  obtain ⟨h1, h2, h3⟩ := slice_bounds lo hi its.toArray.size
  unfold slicePick
  rw [h1, h2, h3]
  simp only [sliceRange_one, pick_run, List.size_toArray] <;> rfl
/-- xs[lo:hi] of a list: a new list -/
def rSlL (K : PySem.W.Frag) : V → Option Int → Option Int → Hp → VK → Prop := fun x lo hi H Q => ∃ a xs, x = .ref a ∧ SqL K H a xs ∧ ∀ p, H p = none → Q (.ref p) (upd H p (.lst (cutV xs lo hi)))
theorem sl_list : SlR X (rSlL X.K) := by
  intro pins s σ H x v vl vu lo hi sl Q I rx hs pl pu h
  obtain ⟨a, xs, rfl, hx, q⟩ := h
  cases rx
  obtain ⟨its, r, ht, hz⟩ := I.list hx
  have hlen := r.length
  refine ⟨"list", _, slot_list_getitem.lookup, ht.isList.typeIs, ?_⟩
  refine wpAny_getItem_list_slice ht.isList hs pl pu .none (by simp) ?_ (by rw [List.size_toArray] <;> omega)
  rw [slicePick_cut, ← hlen]
  refine ⟨.ref s.heap.objs.size, _, I.laid (t' := s.toks) (o := .lst (cutV xs lo hi)) (fun b ob q => Heap.get?_push_of_some _ q) (Nat.le_refl _) ?_, rfl, q _ (I.hok.fresh (Nat.le_refl _))⟩
  exact ⟨Nat.le_trans (cutV_length xs lo hi) hz, _, 0, (r.drop (HT.sIx xs.length 0 lo)).take (HT.sIx xs.length xs.length hi - HT.sIx xs.length 0 lo), Heap.get?_push_size _ rfl⟩

/-! ### in, not in: flat items -/
def flatV : V → Bool
  | .non => true
  | .bl _ => true
  | .int _ => true
  | .str _ => true
  | _ => false
/-- == of flat values -/
def eqV : V → V → Bool
  | .non, .non => true
  | .bl a, .bl b => a == b
  | .bl a, .int b => (if a then 1 else 0) == b
  | .int a, .bl b => a == (if b then 1 else 0)
  | .int a, .int b => a == b
  | .str a, .str b => a == b
  | _, _ => false
theorem eqAt_V {A : Around} {s : Shared} {y x : V} {u v : Value} (ry : RelV y u) (rx : RelV x v) (fy : flatV y = true) (fx : flatV x = true) : SeqAt.EqAt A s u v (eqV y x) := by
  cases y with
  | non =>
    cases ry
    cases x with
    | non => cases rx; exact SeqAt.EqAt.same _
    | bl b => cases rx; exact SeqAt.EqAt.none_bool b
    | int b => obtain ⟨t, rfl⟩ := rx; exact SeqAt.EqAt.none_int b t
    | str b => obtain ⟨t, rfl⟩ := rx; exact SeqAt.EqAt.none_str b t
    | _ => exact absurd (show false = true from fx) Bool.false_ne_true
  | bl a =>
    cases ry
    cases x with
    | non => cases rx; exact SeqAt.EqAt.bool_none a
    | bl b => cases rx; exact SeqAt.EqAt.bool_bool a b
    | int b => obtain ⟨t, rfl⟩ := rx; exact SeqAt.EqAt.bool_int a b t
    | str b => obtain ⟨t, rfl⟩ := rx; exact SeqAt.EqAt.bool_str a b t
    | _ => exact absurd (show false = true from fx) Bool.false_ne_true
  | int a =>
    obtain ⟨t', rfl⟩ := ry
    cases x with
    | non => cases rx; exact SeqAt.EqAt.int_none a t'
    | bl b => cases rx; exact SeqAt.EqAt.int_bool a t' b
    | int b => obtain ⟨t, rfl⟩ := rx; exact SeqAt.EqAt.int_int a t' b t
    | str b => obtain ⟨t, rfl⟩ := rx; exact SeqAt.EqAt.int_str a t' b t
    | _ => exact absurd (show false = true from fx) Bool.false_ne_true
  | str a =>
    obtain ⟨t', rfl⟩ := ry
    cases x with
    | non => cases rx; exact SeqAt.EqAt.str_none a t'
    | bl b => cases rx; exact SeqAt.EqAt.str_bool a t' b
    | int b => obtain ⟨t, rfl⟩ := rx; exact SeqAt.EqAt.str_int a t' b t
    | str b => obtain ⟨t, rfl⟩ := rx; exact SeqAt.EqAt.str_str a t' b t
    | _ => exact absurd (show false = true from fx) Bool.false_ne_true
  | _ => exact absurd (show false = true from fy) Bool.false_ne_true
/-- the items' answers, read off the values (a value's own answer does not lean on its token) -/
def eqU (x : V) (u : Value) : Bool := match u with
  | .none => eqV .non x
  | .bool b => eqV (.bl b) x
  | .int i _ => eqV (.int i) x
  | .str z _ => eqV (.str z) x
  | _ => false
theorem eqU_of {x y : V} {u : Value} (r : RelV y u) (f : flatV y = true) : eqU x u = eqV y x := by
  cases y with
  | non => cases r; rfl
  | bl b => cases r; rfl
  | int i => obtain ⟨t, rfl⟩ := r; rfl
  | str z => obtain ⟨t, rfl⟩ := r; rfl
  | _ => exact absurd (show false = true from f) Bool.false_ne_true
theorem any_eqU {x : V} : ∀ {xs : List V} {us : List Value}, Vals xs us → xs.all flatV = true → us.any (eqU x) = xs.any fun y => eqV y x
  | _, _, .nil, _ => rfl
  | y :: xs, u :: us, .cons r t, f => by
    rw [List.all_cons, Bool.and_eq_true] at f
    rw [List.any_cons, List.any_cons, eqU_of r f.1, any_eqU t f.2]
theorem mem_eqAt {A : Around} {s : Shared} {x : V} {v : Value} (rx : RelV x v) (fx : flatV x = true) : ∀ {xs : List V} {us : List Value}, Vals xs us → xs.all flatV = true → ∀ u ∈ us, SeqAt.EqAt A s u v (eqU x u)
  | _, _, .nil, _ => fun u hu => by cases hu
  | y :: xs, u :: us, .cons r t, f => fun u' hu => by
    rw [List.all_cons, Bool.and_eq_true] at f
    rcases List.mem_cons.mp hu with rfl | hu
    · rw [eqU_of r f.1]; exact eqAt_V r rx f.1 fx
    · exact mem_eqAt rx fx t f.2 u' hu
def inV (x : V) (xs : List V) : Bool := xs.any fun y => eqV y x
/-- x in a list or tuple of flat items -/
def rIn (K : PySem.W.Frag) (neg : Bool) : R2 := fun x y H Q => ∃ p xs, y = .ref p ∧ (SqL K H p xs ∨ SqT K H p xs) ∧ flatV x = true ∧ xs.all flatV = true ∧ Q (.bl (if neg then !inV x xs else inV x xs)) H
theorem op_in_seq : OpR X (compareOp .In) (rIn X.K false) := by
  intro pins s σ H x y v u Q I rx ry h
  obtain ⟨p, xs, rfl, hq, fx, fs, q⟩ := h
  cases ry
  rcases hq with hq | hq
  · obtain ⟨its, r, pl, hz⟩ := I.list hq
    refine SeqAt.in_listAt (eqU x) pl.isList (fun w hw => mem_eqAt rx fx r fs w (by simpa using hw)) ⟨.bl _, H, I, rfl, ?_⟩
    rw [show its.toArray.any (eqU x) = its.any (eqU x) by simp, any_eqU r fs]
    exact q
  · obtain ⟨its, r, pl, hz⟩ := I.tuple hq
    refine SeqAt.in_tupleAt (eqU x) pl (fun w hw => mem_eqAt rx fx r fs w (by simpa using hw)) ⟨.bl _, H, I, rfl, ?_⟩
    rw [show its.toArray.any (eqU x) = its.any (eqU x) by simp, any_eqU r fs]
    exact q
theorem op_notIn_seq : OpR X (compareOp .NotIn) (rIn X.K true) := by
  intro pins s σ H x y v u Q I rx ry h
  obtain ⟨p, xs, rfl, hq, fx, fs, q⟩ := h
  cases ry
  rcases hq with hq | hq
  · obtain ⟨its, r, pl, hz⟩ := I.list hq
    refine SeqAt.notIn_listAt (eqU x) pl.isList (fun w hw => mem_eqAt rx fx r fs w (by simpa using hw)) ⟨.bl _, H, I, rfl, ?_⟩
    rw [show its.toArray.any (eqU x) = its.any (eqU x) by simp, any_eqU r fs]
    exact q
  · obtain ⟨its, r, pl, hz⟩ := I.tuple hq
    refine SeqAt.notIn_tupleAt (eqU x) pl (fun w hw => mem_eqAt rx fx r fs w (by simpa using hw)) ⟨.bl _, H, I, rfl, ?_⟩
    rw [show its.toArray.any (eqU x) = its.any (eqU x) by simp, any_eqU r fs]
    exact q
theorem op_notIn_str : OpR X (compareOp .NotIn) (fun x y H Q => ∃ i j, x = .str i ∧ y = .str j ∧ Q (.bl (!(!(Builtin.Str.occurrences j i 0 j.length 1).isEmpty))) H) := by
  intro pins s σ H x y v u Q I rx ry h
  obtain ⟨i, j, rfl, rfl, q⟩ := h
  obtain ⟨t, rfl⟩ := rx
  obtain ⟨t', rfl⟩ := ry
  exact notIn_str ⟨.bl _, H, I, rfl, q⟩

/-! ### len, list(x), tuple(x) of any list or tuple that is read -/
theorem call_len_seq : CallR X (.builtin "len") (fun xs H Q => ∃ p ys, xs = [.ref p] ∧ (SqL X.K H p ys ∨ SqT X.K H p ys) ∧ Q (.int ys.length) H) := by
  intro pins s σ H xs us Q I r h
  obtain ⟨p, ys, rfl, hq, q⟩ := h
  obtain ⟨u, rfl, rx⟩ := vals1 r
  cases rx
  have hn := line63
  rcases hq with hq | hq
  · obtain ⟨its, r', pl, hz⟩ := I.list hq
    have hlen := r'.length
    exact Calls.call_len_list pl.isList (by simp only [List.size_toArray] <;> omega) ⟨.int ys.length, H, I.tok _, ⟨s.toks + 1, by rw [List.size_toArray, hlen]⟩, q⟩
  · obtain ⟨its, r', pl, hz⟩ := I.tuple hq
    have hlen := r'.length
    exact len_tuple pl (by simp only [List.size_toArray] <;> omega) ⟨.int ys.length, H, I.tok _, ⟨s.toks + 1, by rw [List.size_toArray, hlen]⟩, q⟩
theorem call_len_str : CallR X (.builtin "len") (fun xs H Q => ∃ z, xs = [.str z] ∧ z.length ≤ sizeLine ∧ Q (.int z.length) H) := by
  intro pins s σ H xs us Q I r h
  obtain ⟨z, rfl, hz, q⟩ := h
  obtain ⟨u, rfl, t, rfl⟩ := vals1 r
  have hn := line63
  exact len_str (by omega) ⟨.int z.length, H, I.tok _, ⟨_, rfl⟩, q⟩
theorem CallR.or {f : Value} {r r' : List V → Hp → VK → Prop} (h : CallR X f r) (h' : CallR X f r') : CallR X f (fun xs H Q => r xs H Q ∨ r' xs H Q) := by
  intro pins s σ H xs us Q I rs q
  rcases q with q | q
  · exact h pins s σ H xs us Q I rs q
  · exact h' pins s σ H xs us Q I rs q
theorem call_list_of : CallR X (.type "list") (fun xs H Q => ∃ p ys, xs = [.ref p] ∧ (SqL X.K H p ys ∨ SqT X.K H p ys) ∧ ∀ l, H l = none → Q (.ref l) (upd H l (.lst ys))) := by
  intro pins s σ H xs us Q I r h
  obtain ⟨p, ys, rfl, hq, q⟩ := h
  obtain ⟨u, rfl, rx⟩ := vals1 r
  cases rx
  have fin : ∀ (its : List Value), Vals ys its → ys.length ≤ sizeLine → ∀ (h' : Heap) (c' : Nat), (∀ b o', s.heap.get? b = some o' → h'.get? b = some o') →
      h'.get? s.heap.objs.size = some { cls := .type "list", dict := none, data := .seq its.toArray c', slots := #[] } → EP X pins σ Q (.ref s.heap.objs.size) { s with heap := h' } := fun its r' hz h' c' kp e =>
    ⟨.ref s.heap.objs.size, _, I.laid (t' := s.toks) kp (Nat.le_refl _) (show ObjOk X.prog X.w _ h' _ (.lst ys) from ⟨hz, its, c', r', e⟩), rfl, q _ (I.hok.fresh (Nat.le_refl _))⟩
  rcases hq with hq | hq
  · obtain ⟨its, r', pl, hz⟩ := I.list hq
    have hlen := r'.length
    obtain ⟨o, ho, hc, n, hd⟩ := pl.isList
    exact call_list_seq p (.inl rfl) ho hc hd (fun h' c' kp e => fin its r' hz h' c' kp e) (by simp only [List.size_toArray] <;> omega)
  · obtain ⟨its, r', pl, hz⟩ := I.tuple hq
    have hlen := r'.length
    obtain ⟨o, ho, hc, n, hd⟩ := pl
    exact call_list_seq p (.inr rfl) ho hc hd (fun h' c' kp e => fin its r' hz h' c' kp e) (by simp only [List.size_toArray] <;> omega)
theorem call_tuple_of : CallR X (.type "tuple") (fun xs H Q => ∃ p ys, xs = [.ref p] ∧ ((SqL X.K H p ys ∧ ∀ l, H l = none → Q (.ref l) (upd H l (.tup ys))) ∨ (SqT X.K H p ys ∧ Q (.ref p) H))) := by
  intro pins s σ H xs us Q I r h
  obtain ⟨p, ys, rfl, h⟩ := h
  obtain ⟨u, rfl, rx⟩ := vals1 r
  cases rx
  rcases h with ⟨hq, q⟩ | ⟨hq, q⟩
  · obtain ⟨its, r', pl, hz⟩ := I.list hq
    have hlen := r'.length
    refine call_tuple_list pl.isList (fun h' kp => ?_) (by simp only [List.size_toArray] <;> omega)
    have I1 : Inv X pins σ H { s with heap := h' } := I.kept (t' := s.toks) kp
    have I2 : Inv X pins σ (upd H h'.objs.size (.tup ys)) { s with heap := h'.push { cls := .type "tuple", data := .seq its.toArray } } :=
      I1.laid (t' := s.toks) (fun b o e => Heap.get?_push_of_some _ e) (Nat.le_refl _) (show ObjOk X.prog X.w _ _ _ (.tup ys) from ⟨hz, its, r', IsTup.new _ _⟩)
    exact ⟨.ref h'.objs.size, _, I2, rfl, q _ (I1.hok.fresh (Nat.le_refl _))⟩
  · obtain ⟨its, r', pl, hz⟩ := I.tuple hq
    exact call_tuple_same pl ⟨.ref p, H, I, rfl, q⟩

/-! ### the call of a builtin's method: o.m(..) -/
/-- the value is of that builtin type -/
def tyV (K : PySem.W.Frag) (T : String) (x : V) (H : Hp) : Prop := match x with
  | .str _ => T = "str"
  | .int _ => T = "int"
  | .ref p => (T = "list" ∧ ∃ xs, SqL K H p xs) ∨ (T = "tuple" ∧ ∃ o, K.lookup p = some o ∧ o.cls = .type "tuple" ∧ o.dict = none) ∨
      (T = "dict" ∧ ((∃ kvs, H p = some (.dK kvs)) ∨ ∃ kvs, H p = some (.dT kvs))) ∨ (T = "set" ∧ ∃ S n, H p = some (.set S n))
  | _ => False
theorem tyV_is {pins : List (Addr × Obj)} {σ : St} {H : Hp} {s : Shared} {T : String} {x : V} {v : Value} (I : Inv X pins σ H s) (r : RelV x v) (ty : tyV X.K T x H) :
    s.TypeIs v T ∧ ∀ a, v = .ref a → ∃ ob, s.heap.get? a = some ob ∧ ob.dict = none := by
  cases x with
  | str z =>
    obtain ⟨t, rfl⟩ := r
    cases (show T = "str" from ty)
    exact ⟨typeIs_str s z t, fun _ e => nomatch e⟩
  | int i =>
    obtain ⟨t, rfl⟩ := r
    cases (show T = "int" from ty)
    exact ⟨typeIs_int s i t, fun _ e => nomatch e⟩
  | ref p =>
    cases r
    rcases ty with ⟨rfl, xs, hq⟩ | ⟨rfl, o, hk, hc, hd⟩ | ⟨rfl, hk⟩ | ⟨rfl, S, n, hk⟩
    · obtain ⟨its, _, pl, _⟩ := I.list hq
      refine ⟨pl.isList.typeIs, fun a e => ?_⟩
      cases e
      obtain ⟨o, n, e, c, hd, _⟩ := pl
      exact ⟨o, e, hd⟩
    · refine ⟨⟨o, I.kIn p o hk, hc⟩, fun a e => ?_⟩
      cases e
      exact ⟨o, I.kIn _ o hk, hd⟩
    · have z : ∃ o, s.heap.get? p = some o ∧ o.ExactDict := by
        rcases hk with ⟨kvs, hk⟩ | ⟨kvs, hk⟩
        · obtain ⟨_, _, _, _, o, _, _, e, ex, _⟩ := I.hok p _ hk
          exact ⟨o, e, ex⟩
        · obtain ⟨_, _, _, _, o, _, _, e, ex, _⟩ := I.hok p _ hk
          exact ⟨o, e, ex⟩
      obtain ⟨o, e, ex⟩ := z
      refine ⟨⟨o, e, ex.1⟩, fun a e2 => ?_⟩
      cases e2
      exact ⟨o, e, ex.2.1⟩
    · obtain ⟨o, _, _, _, e, ex, _⟩ := I.hok p _ hk
      refine ⟨⟨o, e, ex.1⟩, fun a e2 => ?_⟩
      cases e2
      exact ⟨o, e, ex.2.1⟩
  | _ => exact False.elim ty
def tBM0 (K : PySem.W.Frag) (T : String) (r : V → List V → Hp → VK → Prop) (to : TE) : TE := fun σ H Q => to σ H fun x H1 => tyV K T x H1 ∧ r x [] H1 Q
def tBM (K : PySem.W.Frag) (T : String) (r : V → List V → Hp → VK → Prop) (to : TE) (t : TA) : TE := fun σ H Q => to σ H fun x H1 => tyV K T x H1 ∧ t σ H1 fun xs H2 => r x xs H2 Q
variable {o e : Expr} {es : List Expr} {to : TE} {t : TA} {name : Str} {apos cpos : Pos} {T id : String} {r : V → List V → Hp → VK → Prop}
theorem pe_bm0 (pa : PlainAttrs T) (slot : Slot T name id) (hty : typeOf (.builtin id) = pure (.type "method_descriptor")) (hm : MtR X id r) (ho : PE X o to)
    (hbase : attributeBase o name X.env (eval o X.env) = eval o X.env := by rfl) (hline : (apos.endLine == cpos.line) = true := by rfl) : PE X (.Call (.Attribute o name apos) [] [] cpos) (tBM0 X.K T r to) := by
  intro pins s σ H Q I h
  refine wpAny_Call_method0_late hbase hline (thn (ho pins s σ H _ I h) fun v s1 ⟨x, H1, I1, r1, ty, q1⟩ => ?_)
  obtain ⟨h1, h2⟩ := tyV_is I1 r1 ty
  exact ⟨T, id, pa, slot, hty, h1, h2, Calls.callWith_builtin rfl (PySem.evalArgs_none (hm pins s1 σ H1 x [] v [] Q I1 r1 .nil q1))⟩
theorem pe_bm (pa : PlainAttrs T) (slot : Slot T name id) (hty : typeOf (.builtin id) = pure (.type "method_descriptor")) (hm : MtR X id r) (ho : PE X o to) (ha : PA X (e :: es) t)
    (hbase : attributeBase o name X.env (eval o X.env) = eval o X.env := by rfl)
    (hfew : ((backTo cpos (starEach (e :: es) X.env)).all (fun x => !x.1) && (backToKw cpos (keywordEach [] X.env)).all (fun x => x.1.isSome)
      && decide ((e :: es).length + ([] : List Keyword).length + (if ([] : List Keyword).isEmpty then 0 else 1) < 30)) = true := by rfl)
    (hline : (apos.endLine == cpos.line) = true := by rfl) (hs : starEach (e :: es) X.env = (false, eval e X.env) :: starEach es X.env := by rfl) (hplain : (backTo cpos (starEach es X.env)).any (·.1) = false := by rfl) :
    PE X (.Call (.Attribute o name apos) (e :: es) [] cpos) (tBM X.K T r to t) := by
  intro pins s σ H Q I h
  refine wpAny_Call_method_late hbase hfew hline rfl (thn (ho pins s σ H _ I h) fun v s1 ⟨x, H1, I1, r1, ty, q1⟩ => ?_)
  obtain ⟨h1, h2⟩ := tyV_is I1 r1 ty
  refine ⟨T, id, pa, slot, hty, h1, h2, ?_⟩
  have hA := ha cpos pins s1 σ H1 _ I1 q1
  rw [hs] at hA ⊢
  refine Calls.callWith_builtin (by show (false || (backTo cpos (starEach es X.env)).any (·.1)) = false; rw [hplain] <;> rfl) (Calls.evalArgs_plain ?_)
  exact thn hA fun us s2 ⟨vs, H2, I2, r2, q2⟩ => hm pins s2 σ H2 x vs v us Q I2 r1 r2 q2
/- xs.append(e), list.index on a module's tuple .. are MtR facts of 06m -/
end
end L2

namespace L2
open PySem PySem.Spec PyProof.Rows

def MtM (X : Cx) (id : String) (r : V → List V → Hp → VK → Prop) : Prop :=
  ∀ (pins : List (Addr × Obj)) (s : Shared) (σ : St) (H : Hp) (x : V) (xs : List V) (v : Value) (us : List Value) (Q : VK), Inv X pins σ H s → RelV x v → Vals xs us → r x xs H Q →
    wpAny (model X.prog X.w) X.A (call (.builtin id) (v :: us)) (EP X pins σ Q) X.xe s

/-! ### lists of values -/
theorem Vals.one : ∀ {x : V} {us : List Value}, Vals [x] us → ∃ u, us = [u] ∧ RelV x u
  | _, _, .cons r .nil => ⟨_, rfl, r⟩
theorem Vals.two : ∀ {x y : V} {us : List Value}, Vals [x, y] us → ∃ u v, us = [u, v] ∧ RelV x u ∧ RelV y v
  | _, _, _, .cons r (.cons q .nil) => ⟨_, _, rfl, r, q⟩
theorem Vals.zero : ∀ {us : List Value}, Vals [] us → us = []
  | _, .nil => rfl
theorem Vals.dropLast {xs : List V} {us : List Value} (h : Vals xs us) : Vals xs.dropLast us.dropLast := by
  induction h with
  | nil => exact .nil
  | cons r t ih =>
    cases t with
    | nil => exact .nil
    | cons q t' => exact .cons r ih
theorem Vals.eraseIdx : ∀ {xs : List V} {us : List Value} (i : Nat), Vals xs us → Vals (xs.eraseIdx i) (us.eraseIdx i)
  | _, _, _, .nil => .nil
  | _, _, 0, .cons _ t => t
  | _, _, i + 1, .cons r t => .cons r (Vals.eraseIdx i t)
theorem Vals.reverse {xs : List V} {us : List Value} (h : Vals xs us) : Vals xs.reverse us.reverse := by
  induction h with
  | nil => exact .nil
  | cons r t ih => rw [List.reverse_cons, List.reverse_cons]; exact Vals.append ih (.cons r .nil)
theorem Vals.rep {xs : List V} {us : List Value} (h : Vals xs us) : ∀ k : Nat, Vals (List.replicate k xs).flatten (List.replicate k us).flatten
  | 0 => .nil
  | k + 1 => by
    rw [List.replicate_succ, List.replicate_succ, List.flatten_cons, List.flatten_cons]
    exact Vals.append h (Vals.rep h k)
theorem erase_last {α : Type} (l : List α) : l.eraseIdx (l.length - 1) = l.dropLast := by
  induction l with
  | nil => rfl
  | cons a r ih =>
    cases r with
    | nil => rfl
    | cons b r =>
      have e : (a :: b :: r).length - 1 = ((b :: r).length - 1) + 1 := by
        have h1 : (a :: b :: r).length = r.length + 2 := rfl
        have h2 : (b :: r).length = r.length + 1 := rfl
        omega
      rw [e, List.eraseIdx_cons_succ, ih]
      all_goals rfl
theorem len_erase {α : Type} : ∀ (l : List α) (i : Nat), (l.eraseIdx i).length ≤ l.length
  | [], _ => Nat.le_refl _
  | _ :: _, 0 => Nat.le_succ _
  | _ :: r, i + 1 => Nat.succ_le_succ (len_erase r i)
theorem foldl_rep (its : List Value) : ∀ (k : Nat) (acc : List Value),
    List.foldl (fun x1 x2 => x1 ++ x2) acc.toArray (List.replicate k its.toArray) = (acc ++ (List.replicate k its).flatten).toArray
  | 0, acc => by simp
  | k + 1, acc => by
    have e : acc.toArray ++ its.toArray = (acc ++ its).toArray := by simp
    have e2 : (acc ++ its) ++ (List.replicate k its).flatten = acc ++ (List.replicate (k + 1) its).flatten := by
      rw [List.replicate_succ, List.flatten_cons, List.append_assoc]
    rw [← e2, ← foldl_rep its k (acc ++ its), ← e, List.replicate_succ, List.foldl_cons]

section
variable {X : Cx} {pins : List (Addr × Obj)} {σ : St} {H : Hp} {s : Shared} {l b : Addr} {xs ys zs : List V}

/-! ### the two steps: a tracked list is rewritten, a new list is laid -/
theorem Inv.lset {its its' : List Value} {n : Nat} {f : Array Value → Array Value} {t' : Nat} (I : Inv X pins σ H s) (hH : H l = some (.lst xs))
    (e : s.heap.get? l = some { cls := .type "list", data := .seq its.toArray n }) (hf : f its.toArray = its'.toArray) (hv : Vals ys its') (hz : ys.length ≤ sizeLine) :
    Inv X pins σ (upd H l (.lst ys)) { s with heap := s.heap.update l (Obj.mapSeq f), toks := t' } := by
  have q := PySem.IsL.update e f
  rw [hf] at q
  refine I.write (x := l) (e := l) (by rw [hH]; exact trivial) (.inl rfl) (fun b' u hb hu => (Heap.get?_update_other s.heap (Obj.mapSeq f) (Ne.symm hb)).trans hu) ⟨_, q⟩ ?_
  exact ⟨hz, its', _, hv, q⟩
theorem Inv.lnew {its : List Value} {t' : Nat} (I : Inv X pins σ H s) (hv : Vals ys its) (hz : ys.length ≤ sizeLine) :
    Inv X pins σ (upd H s.heap.objs.size (.lst ys)) { s with heap := s.heap.push { cls := .type "list", data := .seq its.toArray }, toks := t' } :=
  I.laid (fun _ _ q => Heap.get?_push_of_some _ q) (Nat.le_refl _) ⟨hz, its, 0, hv, Heap.get?_push_size _ rfl⟩
theorem Inv.fresh (I : Inv X pins σ H s) : H s.heap.objs.size = none := I.hok.fresh (Nat.le_refl _)
theorem Inv.lstM (I : Inv X pins σ H s) (hH : H l = some (.lst xs)) : xs.length ≤ sizeLine ∧ ∃ (its : List Value) (n : Nat), Vals xs its ∧ xs.length = its.length ∧ s.heap.get? l = some { cls := .type "list", data := .seq its.toArray n } := by
  obtain ⟨z, its, n, r, e⟩ := I.hok l _ hH
  exact ⟨z, its, n, r, r.length, e⟩

theorem notLongL {n : Nat} (h : n ≤ sizeLine) : Builtin.List.listTooLong n = false := by
  unfold Builtin.List.listTooLong
  exact decide_eq_false (by omega)
end

section
variable {X : Cx}

/-! ### methods -/
def rAppend : V → List V → Hp → VK → Prop := fun x vs H Q => ∃ l xs y, x = .ref l ∧ vs = [y] ∧ H l = some (.lst xs) ∧ xs.length < sizeLine ∧ Q .non (upd H l (.lst (xs ++ [y])))
theorem mt_append : MtM X "list.append" rAppend := by
  intro pins s σ H x vs v us Q I rx rv h
  obtain ⟨l, xs, y, rfl, rfl, hH, hz, q⟩ := h
  cases rx
  obtain ⟨u, rfl, ru⟩ := rv.one
  obtain ⟨z, its, n, r, hl, e⟩ := I.lstM hH
  refine call_meets F.slot_list_append ⟨_, e, rfl⟩ F.entry_list_append (F.args_list_append_2 _ _) (PySem.list_append l its.toArray n u (by rw [List.size_toArray]; omega)) ⟨e, ?_⟩
  refine ⟨.non, _, I.lset (its' := its ++ [u]) hH e (by simp) (r.append (.cons ru .nil)) ?_, rfl, q⟩
  rw [List.length_append, List.length_singleton]
  omega

def rExtend : V → List V → Hp → VK → Prop := fun x vs H Q => ∃ l b xs zs, x = .ref l ∧ vs = [.ref b] ∧ H l = some (.lst xs) ∧ H b = some (.lst zs) ∧ xs.length + zs.length ≤ sizeLine ∧ Q .non (upd H l (.lst (xs ++ zs)))
theorem mt_extend : MtM X "list.extend" rExtend := by
  intro pins s σ H x vs v us Q I rx rv h
  obtain ⟨l, b, xs, zs, rfl, rfl, hH, hB, hz, q⟩ := h
  cases rx
  obtain ⟨u, rfl, ru⟩ := rv.one
  cases ru
  obtain ⟨z, its, n, r, hl, e⟩ := I.lstM hH
  obtain ⟨z2, its2, n2, r2, hl2, e2⟩ := I.lstM hB
  have hsz : its.toArray.size + its2.toArray.size ≤ sizeLine := by rw [List.size_toArray, List.size_toArray]; omega
  have hlong : ¬ (!its.toArray.isEmpty && Builtin.List.listTooLong (its.toArray.size + its2.toArray.size)) = true := by
    rw [notLongL hsz, Bool.and_false]
    exact Bool.false_ne_true
  refine call_meets F.slot_list_extend ⟨_, e, rfl⟩ F.entry_list_extend (F.args_list_extend_2 _ _)
    (AutoSeq1.list_extend_list_list_0 l its.toArray n b its2.toArray n2 hlong (by rw [List.size_toArray]; omega) (by omega)) ⟨e, e2, ?_⟩
  refine ⟨.non, _, I.lset (its' := its ++ its2) hH e (by simp) (r.append r2) ?_, rfl, q⟩
  rw [List.length_append]
  omega

def rPop : V → List V → Hp → VK → Prop := fun x vs H Q => ∃ l xs y, x = .ref l ∧ vs = [] ∧ H l = some (.lst xs) ∧ xs[xs.length - 1]? = some y ∧ Q y (upd H l (.lst xs.dropLast))
theorem mt_pop : MtM X "list.pop" rPop := by
  intro pins s σ H x vs v us Q I rx rv h
  obtain ⟨l, xs, y, rfl, rfl, hH, hy, q⟩ := h
  cases rx
  have hus := rv.zero
  subst hus
  obtain ⟨z, its, n, r, hl, e⟩ := I.lstM hH
  obtain ⟨u, hu, ru⟩ := r.get hy
  have hy' : its.toArray[its.toArray.size - 1]? = some u := by
    show its.toArray[its.length - 1]? = some u
    rw [← Array.getElem?_toList, ← hl]
    exact hu
  refine call_meets F.slot_list_pop ⟨_, e, rfl⟩ F.entry_list_pop (F.args_list_pop_1 _) (MeetsSeq.list_pop_last l its.toArray n u hy' (by rw [List.size_toArray]; omega)) ⟨e, ?_⟩
  refine ⟨y, _, I.lset (its' := its.dropLast) hH e ?_ r.dropLast ?_, ru, q⟩
  · show its.toArray.eraseIdxIfInBounds (its.toArray.size - 1) = its.dropLast.toArray
    rw [List.size_toArray, List.eraseIdxIfInBounds_toArray, erase_last]
  · rw [List.length_dropLast]
    omega

def rPopAt : V → List V → Hp → VK → Prop := fun x vs H Q => ∃ l xs i k y, x = .ref l ∧ vs = [.int i] ∧ H l = some (.lst xs) ∧ -(2 ^ 63) ≤ i ∧ i < 2 ^ 63 ∧ seqIndex? i xs.length = some k ∧ xs[k]? = some y ∧ Q y (upd H l (.lst (xs.eraseIdx k)))
theorem mt_popAt : MtM X "list.pop" rPopAt := by
  intro pins s σ H x vs v us Q I rx rv h
  obtain ⟨l, xs, i, k, y, rfl, rfl, hH, h1, h2, hk, hy, q⟩ := h
  cases rx
  obtain ⟨u, rfl, ru⟩ := rv.one
  obtain ⟨t, rfl⟩ := ru
  obtain ⟨z, its, n, r, hl, e⟩ := I.lstM hH
  obtain ⟨w, hw, rw'⟩ := r.get hy
  refine call_meets F.slot_list_pop ⟨_, e, rfl⟩ F.entry_list_pop (F.args_list_pop_2 _ _)
    (MeetsSeq.list_pop_at l its.toArray n i t k w (fitsIndex_both h1 h2) (by rw [List.size_toArray, ← hl]; exact hk) (by rw [← Array.getElem?_toList]; exact hw) (by rw [List.size_toArray]; omega)) ⟨e, ?_⟩
  refine ⟨y, _, I.lset (its' := its.eraseIdx k) hH e ?_ (r.eraseIdx k) ?_, rw', q⟩
  · show its.toArray.eraseIdxIfInBounds k = (its.eraseIdx k).toArray
    rw [List.eraseIdxIfInBounds_toArray]
  · have := len_erase xs k
    omega

def rReverse : V → List V → Hp → VK → Prop := fun x vs H Q => ∃ l xs, x = .ref l ∧ vs = [] ∧ H l = some (.lst xs) ∧ Q .non (upd H l (.lst xs.reverse))
theorem mt_reverse : MtM X "list.reverse" rReverse := by
  intro pins s σ H x vs v us Q I rx rv h
  obtain ⟨l, xs, rfl, rfl, hH, q⟩ := h
  cases rx
  have hus := rv.zero
  subst hus
  obtain ⟨z, its, n, r, hl, e⟩ := I.lstM hH
  refine call_meets F.slot_list_reverse ⟨_, e, rfl⟩ F.entry_list_reverse (F.args_list_reverse_1 _) (AutoSeq1.list_reverse_list_0 l its.toArray n (by rw [List.size_toArray]; omega)) ⟨e, ?_⟩
  refine ⟨.non, _, I.lset (its' := its.reverse) hH e (by simp) r.reverse ?_, rfl, q⟩
  rw [List.length_reverse]
  omega

def rClear : V → List V → Hp → VK → Prop := fun x vs H Q => ∃ l xs, x = .ref l ∧ vs = [] ∧ H l = some (.lst xs) ∧ Q .non (upd H l (.lst []))
theorem mt_clear : MtM X "list.clear" rClear := by
  intro pins s σ H x vs v us Q I rx rv h
  obtain ⟨l, xs, rfl, rfl, hH, q⟩ := h
  cases rx
  have hus := rv.zero
  subst hus
  obtain ⟨z, its, n, r, hl, e⟩ := I.lstM hH
  refine call_meets F.slot_list_clear ⟨_, e, rfl⟩ F.entry_list_clear (F.args_list_clear_1 _) (AutoSeq1.list_clear_list_0 l its.toArray n (by rw [List.size_toArray]; omega)) ⟨e, ?_⟩
  exact ⟨.non, _, I.lset (its' := []) (ys := []) hH e rfl .nil (Nat.zero_le _), rfl, q⟩

/-! ### list + list, list += list, list * int -/
def rCat : R2 := fun x y H Q => ∃ l b xs zs, x = .ref l ∧ y = .ref b ∧ H l = some (.lst xs) ∧ H b = some (.lst zs) ∧ xs.length + zs.length ≤ sizeLine ∧ ∀ p, H p = none → Q (.ref p) (upd H p (.lst (xs ++ zs)))
theorem op_cat : OpR X (binaryOp .Add) rCat := by
  intro pins s σ H x y v u Q I rx ry h
  obtain ⟨l, b, xs, zs, rfl, rfl, hH, hB, hz, q⟩ := h
  cases rx
  cases ry
  obtain ⟨z, its, n, r, hl, e⟩ := I.lstM hH
  obtain ⟨z2, its2, n2, r2, hl2, e2⟩ := I.lstM hB
  refine PySem.P.add_list e e2 ?_ (by rw [List.size_toArray, List.size_toArray]; omega)
  have ea : its.toArray ++ its2.toArray = (its ++ its2).toArray := by simp
  rw [ea]
  exact ⟨.ref _, _, I.lnew (t' := s.toks) (r.append r2) (by rw [List.length_append]; omega), rfl, q _ I.fresh⟩
/-- a list times an int (a negative one is nothing) -/
def rRep : R2 := fun x y H Q => ∃ l k xs, x = .ref l ∧ y = .int k ∧ H l = some (.lst xs) ∧ -(2 ^ 63) ≤ k ∧ k < 2 ^ 63 ∧ xs.length * k.toNat ≤ sizeLine ∧
  ∀ p, H p = none → Q (.ref p) (upd H p (.lst (List.replicate k.toNat xs).flatten))
theorem len_rep {α : Type} (xs : List α) (k : Nat) : (List.replicate k xs).flatten.length = k * xs.length := by
  induction k with
  | zero => simp
  | succ k ih => rw [List.replicate_succ, List.flatten_cons, List.length_append, ih, Nat.succ_mul, Nat.add_comm]
theorem op_rep : OpR X (binaryOp .Mult) rRep := by
  intro pins s σ H x y v u Q I rx ry h
  obtain ⟨l, k, xs, rfl, rfl, hH, h1, h2, hz, q⟩ := h
  cases rx
  obtain ⟨t, rfl⟩ := ry
  obtain ⟨z, its, n, r, hl, e⟩ := I.lstM hH
  have hlen : its.toArray.size * k.toNat ≤ sizeLine := by rw [List.size_toArray, ← hl]; exact hz
  have hcap : ¬ its.toArray.size * k.toNat > (2 ^ 63 - 1) / 8 := by
    have : (sizeLine : Nat) ≤ (2 ^ 63 - 1) / 8 := by decide
    omega
  have hfit : ¬ (!Builtin.List.listFitsIndex k) = true := by
    rw [fitsIndex_both h1 h2]
    exact Bool.false_ne_true
  have hlong : ¬ Builtin.List.listTooLong (its.toArray.size * k.toNat) = true := by
    rw [notLongL hlen]
    exact Bool.false_ne_true
  have hnew : List.foldl (fun x1 x2 => x1 ++ x2) #[] (List.replicate (if its.toArray.isEmpty = true then 0 else k.toNat) its.toArray) = (List.replicate k.toNat its).flatten.toArray := by
    have f0 : ∀ m : Nat, List.foldl (fun x1 x2 => x1 ++ x2) #[] (List.replicate m its.toArray) = (List.replicate m its).flatten.toArray := fun m => by
      have := foldl_rep its m []
      rw [List.nil_append] at this
      exact this
    rw [f0]
    cases its with
    | nil => simp
    | cons a r' => rw [if_neg (by simp)]
  refine wpAny_binaryOp_repeat_ref (T := "list") (U := "int") (by decide) ⟨_, e, rfl⟩ (fun s' => typeIs_int s' k t) noFill_list_mul F.fills_int_mul F.slot_int_rmul repeat_list F.slot_int_index.lookup
    (call_meets F.slot_int_rmul (typeIs_int s k t) F.entry_int_rmul (F.args_int_rmul_2 _ _) (int___rmul___int_list k t l its.toArray n)
      ⟨e, rfl, ⟨_, e, rfl⟩, call_meets F.slot_list_mul ⟨_, e, rfl⟩ F.entry_list_mul (F.args_list_mul_2 _ _) (AutoListH.list___mul___list_int_3 l its.toArray n k t hfit hcap hlong) ⟨e, ?_⟩⟩)
  rw [hnew]
  exact ⟨.ref _, _, I.lnew (t' := s.toks) (r.rep k.toNat) (by rw [len_rep, Nat.mul_comm]; exact hz), rfl, q _ I.fresh⟩

/-! ### del xs[i] -/
theorem del_list {pins : List (Addr × Obj)} {s : Shared} {σ : St} {H : Hp} {l : Addr} {xs : List V} {i : Int} {t : Tok} {k : Nat} {Q : Unit → Shared → Prop} (I : Inv X pins σ H s) (hH : H l = some (.lst xs))
    (h1 : -(2 ^ 63) ≤ i) (h2 : i < 2 ^ 63) (hk : seqIndex? i xs.length = some k) (h : ∀ s', Inv X pins σ (upd H l (.lst (xs.eraseIdx k))) s' → Q () s') :
    wpAny (model X.prog X.w) X.A (delItem (.ref l) (.int i t)) Q X.xe s := by
  obtain ⟨z, its, n, r, hl, e⟩ := I.lstM hH
  refine PySem.P.delItem_list (k := k) e (fitsIndex_both h1 h2) (by rw [List.size_toArray, ← hl]; exact hk) (h _ ?_) (by rw [List.size_toArray]; omega)
  refine I.lset (its' := its.eraseIdx k) (t' := s.toks) hH e ?_ (r.eraseIdx k) ?_
  · show its.toArray.eraseIdxIfInBounds k = (its.eraseIdx k).toArray
    rw [List.eraseIdxIfInBounds_toArray]
  · have := len_erase xs k
    omega
end

/-! ### xs[a:b] = ys -/
section
variable {prog : Program} {w : World} {A : Around} {E : Value → Shared → Prop} {s : Shared}
theorem splice_eq (its its2 : List Value) (a c : Nat) : its.toArray.extract 0 a ++ its2.toArray ++ its.toArray.extract c its.toArray.size = (its.take a ++ its2 ++ its.drop c).toArray := by
  apply Array.toList_inj.mp
  first
    | (simp
       exact List.take_of_length_le (by simp))
    | simp [List.take_of_length_le]
    | simp
theorem bounds_run {a c n : Nat} (hac : a ≤ c) (hc : c ≤ n) : sliceBounds (some (a : Int)) (some (c : Int)) none n = ((a : Int), (c : Int), 1) := by
  simp only [sliceBounds, Option.getD_none]
  have h1 : ¬ ((a : Int) < 0) := by omega
  have h2 : ¬ ((c : Int) < 0) := by omega
  simp only [h1, h2, if_false, show (1 : Int) > 0 by decide, if_true]
  congr 1
  · omega
  · congr 1; omega
set_option maxRecDepth 100000 in
/-- list.__setitem__ with a slice of step one and another list -/
theorem setItem_slice {l b sl : Addr} {items new : Array Value} {n n2 : Nat} {vl vu : Value} {a c : Nat} {Q : Unit → Shared → Prop}
    (e : s.heap.get? l = some { cls := .type "list", data := .seq items n }) (e2 : s.heap.get? b = some { cls := .type "list", data := .seq new n2 }) (hne : l ≠ b)
    (hs : s.heap.IsSliceOf sl vl vu .none) (pl : IsPart vl (some (a : Int))) (pu : IsPart vu (some (c : Int))) (hac : a ≤ c) (hc : c ≤ items.size)
    (hsz : items.size + new.size ≤ sizeLine) (h : Q () { s with heap := s.heap.update l (Obj.mapSeq fun xs => xs.extract 0 a ++ new ++ xs.extract c xs.size) }) :
    wpAny (model prog w) A (setItem (.ref l) (.ref sl) (.ref b)) Q E s := by
  have hl : s.heap.IsList l items := PySem.IsL.isList e
  have hb : s.heap.IsList b new := PySem.IsL.isList e2
  obtain ⟨os, hos, hcs, hds⟩ := id hs
  have hTs : s.TypeIs (.ref sl) "slice" := ⟨os, hos, hcs⟩
  have hstep : ¬ ((rawPart none == rawInt 0) = true) := Bool.false_ne_true
  have hsame : Builtin.List.listSameRef (.ref l) (.ref b) = false := by
    unfold Builtin.List.listSameRef
    exact beq_eq_false_iff_ne.mpr hne
  have hmax : (max (a : Int) (c : Int)).toNat = c := by omega
  have hz' : ((fun xs : Array Value => xs.extract 0 a ++ new ++ xs.extract c xs.size) items).size ≤ sizeLine + 1 := by
    simp only [Array.size_append, Array.size_extract]
    omega
  unfold setItem
  try with_reducible refine wpAny_holding ?_
  first | refine wpAny_bind (wpAny_pure ?_) | skip
  refine wpAny_bind (wpAny_sequenceKey hl.typeIs (by decide) ?_)
  refine wpAny_bind (wpAny_callSpecial?_slot (name := Str.ofString "__setitem__") hl.typeIs slot_list_setitem
    (wpAny_call_entry slot_list_setitem hl.typeIs entry_list_setitem ?_ (args_list_setitem _ _ _)))
  show wpAny _ _ (Builtin.List.listSubscript? (.ref sl) >>= _) _ _ s
  refine wpAny_bind ?_
  unfold Builtin.List.listSubscript?
  refine wpAny_bind (wpAny_specialOf hTs slice_no_index ?_)
  simp only [Option.isNone_none, if_true]
  refine wpAny_pure ?_
  show wpAny _ _ (typeOf (.ref sl) >>= _) _ _ s
  refine wpAny_bind (wpAny_typeOf hTs ?_)
  first
    | rw [if_neg (by decide)]
    | refine PySem.W.KFB.if_not (by decide) ?_
  rw [listSliceParts_eq]
  refine wpAny_bind (wpAny_bind (wpAny_field hos hds (x := .none) rfl (wpAny_bind (wpAny_listPart .none ?_))))
  rw [if_neg hstep]
  refine wpAny_bind (wpAny_field hos hds (x := vl) rfl (wpAny_bind (wpAny_listPart pl ?_)))
  refine wpAny_bind (wpAny_field hos hds (x := vu) rfl (wpAny_bind (wpAny_listPart pu (wpAny_pure ?_))))
  first
    | simp only [hsame, Bool.false_eq_true, if_false]
    | refine PySem.W.KFB.if_not hsame ?_
    | (dsimp only
       rw [if_neg (by rw [hsame]; exact Bool.false_ne_true)])
  refine wpAny_bind (m := Builtin.List.listAllItems (.ref b) "must assign iterable to extended slice") ?_
  unfold Builtin.List.listAllItems
  refine wpAny_bind (wpAny_typeOf hb.typeIs ?_)
  first
    | refine PySem.W.KFB.if_so (by decide) ?_
    | rw [if_pos (by decide)]
    | simp only [beq_self_eq_true, Bool.true_or, if_true]
  unfold Builtin.List.listItems
  refine wpAny_bind (wpAny_seqItems e2 rfl (wpAny_pure ?_))
  refine wpAny_bind (wpAny_bind (wpAny_seqItems e rfl (wpAny_pure ?_)))
  refine wpAny_bind (wpAny_of_eq ((sliceIndices_raw (some (a : Int)) (some (c : Int)) none items.size (by simp)).trans (congrArg (pure : Int × Int × Int → Sem (Int × Int × Int)) (bounds_run hac hc))) ?_)
  show wpAny _ _ (if ((1 : Int) == 1) = true then _ else _) _ _ s
  rw [if_pos (by decide)]
  refine wpAny_bind (wpAny_rule ?_)
  first
    | simp only [notLongL hsz, Bool.false_eq_true, if_false]
    | refine PySem.W.KFB.if_not (notLongL hsz) ?_
  first | refine wpAny_bind (wpAny_pure ?_) | skip
  show wpAny _ _ (updateSeq l (fun xs => xs.extract 0 ((a : Int)).toNat ++ new ++ xs.extract (max (a : Int) (c : Int)).toNat xs.size) >>= _) _ _ s
  rw [hmax, Int.toNat_natCast]
  refine wpAny_bind (wpAny_updateSeq (hz := Nat.le_trans (Nat.le_add_right _ _) hsz) (_hz' := hz') e rfl ?_)
  refine wpAny_bind (wpAny_letGo ?_)
  first
    | exact wpAny_bind (wpAny_pure (wpAny_pure ⟨.none, rfl, wpAny_pure h⟩))
    | exact wpAny_pure ⟨.none, rfl, wpAny_pure h⟩
end

section
variable {X : Cx}
/-- xs[a:c] = ys of another list, at the value level: sl is the slice object that was just made -/
theorem set_slice {pins : List (Addr × Obj)} {s : Shared} {σ : St} {H : Hp} {l b sl : Addr} {xs ys : List V} {a c : Int} {vl vu : Value} {Q : Unit → Shared → Prop} (I : Inv X pins σ H s)
    (hH : H l = some (.lst xs)) (hB : H b = some (.lst ys)) (hne : l ≠ b) (hs : s.heap.IsSliceOf sl vl vu .none) (ra : RelV (.int a) vl) (rc : RelV (.int c) vu) (h0 : 0 ≤ a) (hac : a ≤ c) (hc : c ≤ xs.length)
    (hz : xs.length + ys.length ≤ sizeLine) (h : ∀ s', Inv X pins σ (upd H l (.lst (xs.take a.toNat ++ ys ++ xs.drop c.toNat))) s' → Q () s') :
    wpAny (model X.prog X.w) X.A (setItem (.ref l) (.ref sl) (.ref b)) Q X.xe s := by
  obtain ⟨ta, rfl⟩ := ra
  obtain ⟨tc, rfl⟩ := rc
  obtain ⟨z, its, n, r, hl, e⟩ := I.lstM hH
  obtain ⟨z2, its2, n2, r2, hl2, e2⟩ := I.lstM hB
  obtain ⟨a', rfl⟩ := Int.eq_ofNat_of_zero_le h0
  obtain ⟨c', rfl⟩ := Int.eq_ofNat_of_zero_le (Int.le_trans h0 hac)
  simp only [Int.toNat_natCast] at h
  refine setItem_slice (a := a') (c := c') e e2 hne hs (.int _ _) (.int _ _) (by omega) (by rw [List.size_toArray]; omega) (by rw [List.size_toArray, List.size_toArray]; omega) (h _ ?_)
  refine I.lset (its' := its.take a' ++ its2 ++ its.drop c') (t' := s.toks) hH e ?_ (Vals.append (Vals.append (r.take _) r2) (r.drop _)) ?_
  · exact splice_eq its its2 a' c'
  · rw [List.length_append, List.length_append, List.length_take, List.length_drop]
    omega
end
end L2

namespace L2
open PySem PySem.Spec PyProof.Rows

/-! ### lists of pairs as tables -/
section
variable {κ : Type} [DecidableEq κ]
def valV (kvs : List (κ × V)) (k : κ) : Option V := (kvs.find? fun kv => decide (kv.1 = k)).map (·.2)
/-- in its place, or at the end -/
def putK (kvs : List (κ × V)) (k : κ) (v : V) : List (κ × V) :=
  if (kvs.any fun kv => decide (kv.1 = k)) = true then kvs.map (fun kv => if kv.1 = k then (kv.1, v) else kv) else kvs ++ [(k, v)]
def dropK (kvs : List (κ × V)) (k : κ) : List (κ × V) := kvs.filter fun kv => decide (kv.1 ≠ k)

theorem valV_nil {k : κ} : valV ([] : List (κ × V)) k = none := rfl
theorem valV_pos {p : κ × V} {r : List (κ × V)} {k : κ} (e : p.1 = k) : valV (p :: r) k = some p.2 := by simp [valV, List.find?_cons, e]
theorem valV_neg {p : κ × V} {r : List (κ × V)} {k : κ} (e : ¬ p.1 = k) : valV (p :: r) k = valV r k := by simp [valV, List.find?_cons, e]
theorem valV_any (k : κ) : ∀ kvs : List (κ × V), (kvs.any fun kv => decide (kv.1 = k)) = (valV kvs k).isSome
  | [] => rfl
  | p :: r => by
    rw [List.any_cons]
    by_cases e : p.1 = k
    · simp only [valV_pos e, decide_eq_true e, Bool.true_or, Option.isSome_some]
    · rw [valV_neg e, decide_eq_false e, Bool.false_or]; exact valV_any k r
theorem valV_map (k j : κ) (y : V) : ∀ kvs : List (κ × V), valV (kvs.map fun kv => if kv.1 = k then (kv.1, y) else kv) j = (valV kvs j).map fun x => if j = k then y else x
  | [] => rfl
  | p :: r => by
    have ih := valV_map k j y r
    rw [List.map_cons]
    by_cases h : p.1 = k
    · rw [if_pos h]
      by_cases e : p.1 = j
      · rw [valV_pos (p := (p.1, y)) e, valV_pos e, Option.map_some, if_pos (e.symm.trans h)]
      · rw [valV_neg (p := (p.1, y)) e, valV_neg e, ih]
    · rw [if_neg h]
      by_cases e : p.1 = j
      · rw [valV_pos (p := p) e, valV_pos e, Option.map_some, if_neg (fun z => h (e.trans z))]
      · rw [valV_neg (p := p) e, valV_neg e, ih]
theorem valV_snoc (k j : κ) (y : V) : ∀ kvs : List (κ × V), valV kvs k = none → valV (kvs ++ [(k, y)]) j = if j = k then some y else valV kvs j
  | [], _ => by
    by_cases e : k = j
    · rw [if_pos e.symm]; exact valV_pos (p := (k, y)) e
    · rw [if_neg (fun z => e z.symm)]; exact valV_neg (p := (k, y)) e
  | p :: r, hn => by
    rw [List.cons_append]
    have hk : ¬ p.1 = k := fun z => by rw [valV_pos z] at hn; cases hn
    rw [valV_neg hk] at hn
    have ih := valV_snoc k j y r hn
    by_cases e : p.1 = j
    · rw [valV_pos e, valV_pos e, if_neg (fun z => hk (e.trans z))]
    · rw [valV_neg e, valV_neg e, ih]
theorem valV_put (kvs : List (κ × V)) (k j : κ) (y : V) : valV (putK kvs k y) j = if j = k then some y else valV kvs j := by
  unfold putK
  by_cases a : (kvs.any fun kv => decide (kv.1 = k)) = true
  · rw [if_pos a, valV_map]
    rw [valV_any] at a
    by_cases e : j = k
    · obtain ⟨x, hx⟩ := Option.isSome_iff_exists.mp a
      rw [if_pos e, e, hx, Option.map_some, if_pos rfl]
    · rw [if_neg e]
      cases valV kvs j with
      | none => rfl
      | some x => rw [Option.map_some, if_neg e]
  · rw [if_neg a]
    refine valV_snoc k j y kvs ?_
    rw [valV_any] at a
    cases q : valV kvs k with
    | none => rfl
    | some x => rw [q] at a; exact (a rfl).elim
theorem length_putK (kvs : List (κ × V)) (k : κ) (v : V) : (putK kvs k v).length ≤ kvs.length + 1 := by
  unfold putK
  split
  · rw [List.length_map]; omega
  · rw [List.length_append, List.length_cons, List.length_nil]; omega
theorem putK_new {kvs : List (κ × V)} {k : κ} (v : V) (h : valV kvs k = none) : putK kvs k v = kvs ++ [(k, v)] := by
  unfold putK
  rw [valV_any, h]
  exact if_neg (by decide)

theorem RelO.isSome_eq {o : Option V} {u : Option Value} (r : RelO o u) : o.isSome = u.isSome := by
  cases o with
  | none => cases u with
    | none => rfl
    | some _ => exact (show False from r).elim
  | some _ => cases u with
    | none => exact (show False from r).elim
    | some _ => rfl
theorem RelO.getD {o : Option V} {u : Option Value} {d : V} {d' : Value} (r : RelO o u) (rd : RelV d d') : RelV (o.getD d) (u.getD d') := by
  cases o with
  | none => cases u with
    | none => exact rd
    | some _ => exact (show False from r).elim
  | some _ => cases u with
    | none => exact (show False from r).elim
    | some _ => exact r

/-- raw tables of the same keys -/
theorem KV.val {kvs : List (κ × V)} {vs : List (κ × Value)} (r : KV kvs vs) (k : κ) : RelO (valV kvs k) (valueAt vs k) := by
  unfold KV at r
  induction r with
  | nil => exact True.intro
  | @cons p q ps qs h t ih =>
    obtain ⟨h1, h2⟩ := h
    by_cases e : p.1 = k
    · have e' : q.1 = k := h1.symm.trans e
      have b : valueAt (q :: qs) k = some q.2 := by simp [valueAt, List.find?_cons, e']
      rw [valV_pos e, b]; exact h2
    · have e' : ¬ q.1 = k := fun z => e (h1.trans z)
      have b : valueAt (q :: qs) k = valueAt qs k := by simp [valueAt, List.find?_cons, e']
      rw [valV_neg e, b]; exact ih
theorem KV.any {kvs : List (κ × V)} {vs : List (κ × Value)} (r : KV kvs vs) (k : κ) : (kvs.any fun kv => decide (kv.1 = k)) = vs.any fun kv => decide (kv.1 = k) := by
  unfold KV at r
  induction r with
  | nil => rfl
  | cons h t ih => rw [List.any_cons, List.any_cons, ih, h.1]
theorem KV.repl {kvs : List (κ × V)} {vs : List (κ × Value)} (r : KV kvs vs) (k : κ) {y : V} {u : Value} (ry : RelV y u) :
    KV (kvs.map fun kv => if kv.1 = k then (kv.1, y) else kv) (vs.map fun kv => if kv.1 = k then (kv.1, u) else kv) := by
  unfold KV at r ⊢
  induction r with
  | nil => exact .nil
  | @cons p q ps qs h t ih =>
    rw [List.map_cons, List.map_cons]
    refine .cons ?_ ih
    obtain ⟨h1, h2⟩ := h
    by_cases e : p.1 = k
    · rw [if_pos e, if_pos (h1.symm.trans e)]; exact ⟨h1, ry⟩
    · rw [if_neg e, if_neg (fun z => e (h1.trans z))]; exact ⟨h1, h2⟩
theorem KV.put {kvs : List (κ × V)} {vs : List (κ × Value)} (r : KV kvs vs) (k : κ) {y : V} {u : Value} (ry : RelV y u) : KV (putK kvs k y) (stored vs k u) := by
  unfold putK stored
  rw [r.any k]
  by_cases e : (vs.any fun kv => decide (kv.1 = k)) = true
  · rw [if_pos e, if_pos e]; exact r.repl k ry
  · rw [if_neg e, if_neg e]; exact Paired.snoc r ⟨rfl, ry⟩
theorem KV.drop {kvs : List (κ × V)} {vs : List (κ × Value)} (r : KV kvs vs) (k : κ) : KV (dropK kvs k) (without vs k) := by
  unfold KV at r ⊢
  unfold dropK without
  induction r with
  | nil => exact .nil
  | @cons p q ps qs h t ih =>
    obtain ⟨h1, h2⟩ := h
    rw [List.filter_cons, List.filter_cons]
    by_cases e : p.1 = k
    · have a : ¬ decide (p.1 ≠ k) = true := by simp [e]
      have b : ¬ decide (q.1 ≠ k) = true := by simp [h1.symm.trans e]
      rw [if_neg a, if_neg b]; exact ih
    · have e' : ¬ q.1 = k := fun z => e (h1.trans z)
      have a : decide (p.1 ≠ k) = true := by simp [e]
      have b : decide (q.1 ≠ k) = true := by simp [e']
      rw [if_pos a, if_pos b]; exact .cons ⟨h1, h2⟩ ih
theorem KV.keys {kvs : List (κ × V)} {vs : List (κ × Value)} (r : KV kvs vs) : kvs.map (·.1) = vs.map (·.1) := by
  unfold KV at r
  induction r with
  | nil => rfl
  | cons h t ih => rw [List.map_cons, List.map_cons, ih, h.1]
theorem KV.length {kvs : List (κ × V)} {vs : List (κ × Value)} (r : KV kvs vs) : kvs.length = vs.length := Paired.length r
theorem dropK_le (kvs : List (κ × V)) (k : κ) : (dropK kvs k).length ≤ kvs.length := List.length_filter_le _ _
end


/-! ### a tracked dict, its keys ints and texts or tuples of these -/
theorem kV_is {P : Program} {w : World} {k : Key} {u : Value} (r : RelV (kV k) u) : (mixKind P w).is k u = true := by
  cases k with
  | inl i => obtain ⟨t, e⟩ := (show ∃ t, u = Value.int i t from r); subst e; exact mixKind_int P w i t
  | inr x => obtain ⟨t, e⟩ := (show ∃ t, u = Value.str x t from r); subst e; exact mixKind_str P w x t
theorem kV_inj {a b : Key} (e : kV a = kV b) : a = b := by
  cases a with
  | inl i => cases b with
    | inl j => have e' : V.int i = V.int j := e; injection e' with e'; rw [e']
    | inr y => exact nomatch (show V.int i = V.str y from e)
  | inr x => cases b with
    | inl j => exact nomatch (show V.str x = V.int j from e)
    | inr y => have e' : V.str x = V.str y := e; injection e' with e'; rw [e']
theorem kVs_inj : ∀ {a b : List Key}, a.map kV = b.map kV → a = b
  | [], [], _ => rfl
  | [], _ :: _, e => by simp at e
  | _ :: _, [], e => by simp at e
  | x :: xs, y :: ys, e => by
    rw [List.map_cons, List.map_cons] at e
    injection e with e1 e2
    rw [kV_inj e1, kVs_inj e2]
theorem items_are {P : Program} {w : World} : ∀ {ks : List Key} {us : List Value}, Vals (ks.map kV) us → ItemsAre (mixKind P w) ks us
  | [], _, r => by rw [List.map_nil] at r; cases r; exact .nil
  | k :: ks, _, r => by
    rw [List.map_cons] at r
    cases r with
    | cons h t => exact .cons (kV_is h) (items_are t)

/-- raw entries of a dict with tuple keys -/
abbrev KT (H : Hp) : List (List Key × V) → List (List Key × Addr × Value) → Prop := Paired fun p q => p.1 = q.1 ∧ H q.2.1 = some (.tup (p.1.map kV)) ∧ RelV p.2 q.2.2
theorem KT.val {H : Hp} {kvs : List (List Key × V)} {xs : List (List Key × Addr × Value)} (r : KT H kvs xs) (k : List Key) : RelO (valV kvs k) ((atKey xs k).map (·.2)) := by
  induction r with
  | nil => exact True.intro
  | @cons p q ps qs h t ih =>
    obtain ⟨h1, _, h2⟩ := h
    by_cases e : p.1 = k
    · have e' : q.1 = k := h1.symm.trans e
      have b : atKey (q :: qs) k = some q.2 := by simp [atKey, List.find?_cons, e']
      rw [valV_pos e, b]; exact h2
    · have e' : ¬ q.1 = k := fun z => e (h1.trans z)
      have b : atKey (q :: qs) k = atKey qs k := by simp [atKey, List.find?_cons, e']
      rw [valV_neg e, b]; exact ih
theorem KT.repl {H : Hp} {kvs : List (List Key × V)} {xs : List (List Key × Addr × Value)} (r : KT H kvs xs) (k : List Key) {y : V} {u : Value} (ry : RelV y u) :
    KT H (kvs.map fun kv => if kv.1 = k then (kv.1, y) else kv) (xs.map (putAt k u)) := by
  induction r with
  | nil => exact .nil
  | @cons p q ps qs h t ih =>
    rw [List.map_cons, List.map_cons]
    refine .cons ?_ ih
    obtain ⟨h1, h2, h3⟩ := h
    unfold putAt
    by_cases e : p.1 = k
    · rw [if_pos e, if_pos (h1.symm.trans e)]; exact ⟨h1, h2, ry⟩
    · rw [if_neg e, if_neg (fun z => e (h1.trans z))]; exact ⟨h1, h2, h3⟩
theorem KT.put {H : Hp} {kvs : List (List Key × V)} {xs : List (List Key × Addr × Value)} (r : KT H kvs xs) (k : List Key) {b : Addr} {y : V} {u : Value} (hb : H b = some (.tup (k.map kV))) (ry : RelV y u) :
    KT H (putK kvs k y) (storedH xs k b u) := by
  have e : (kvs.any fun kv => decide (kv.1 = k)) = (atKey xs k).isSome := by
    rw [valV_any, (r.val k).isSome_eq, Option.isSome_map]
  unfold putK storedH
  rw [e]
  by_cases q : (atKey xs k).isSome = true
  · rw [if_pos q, if_pos q]; exact r.repl k ry
  · rw [if_neg q, if_neg q]; exact Paired.snoc r ⟨rfl, hb, ry⟩
theorem KT.keeps {H H' : Hp} {kvs : List (List Key × V)} {xs : List (List Key × Addr × Value)} (r : KT H kvs xs) (ht : ∀ b ys, H b = some (.tup ys) → H' b = some (.tup ys)) : KT H' kvs xs :=
  Paired.mapP r fun _ _ z => ⟨z.1, ht _ _ z.2.1, z.2.2⟩

section
variable {P : Program} {w : World} {H : Hp} {h : Heap} {a : Addr}
theorem rd_of {u : HO} (ok : HOk P w H h) (e : Rd H a u) : ObjOk P w H h a u := e.ok ok
theorem dk_rd {kvs : List (Key × V)} (ok : HOk P w H h) (e : Rd H a (.dK kvs)) : kvs.length ≤ sizeLine ∧ (a == sysModules) = false ∧ ∃ vs, KV kvs vs ∧ h.DictOf (mixKind P w) a vs :=
  show ObjOk P w H h a (.dK kvs) from rd_of ok e
theorem dk_of {kvs : List (Key × V)} (ok : HOk P w H h) (e : H a = some (.dK kvs)) : kvs.length ≤ sizeLine ∧ (a == sysModules) = false ∧ ∃ vs, KV kvs vs ∧ h.DictOf (mixKind P w) a vs := dk_rd ok (.inl e)
/-- a tracked tuple of ints and texts is a key -/
theorem key_of {ks : List Key} (ok : HOk P w H h) (e : H a = some (.tup (ks.map kV))) : (tupleKind (mixKind P w)).is h ks a := by
  obtain ⟨_, its, r, o, h1, h2, n, h3⟩ := (show ObjOk P w H h a (.tup (ks.map kV)) from ok a _ e)
  exact ⟨o, its.toArray, n, h1, h2, h3, by simpa using items_are r⟩
theorem dt_rd {kvs : List (List Key × V)} (ok : HOk P w H h) (e : Rd H a (.dT kvs)) : kvs.length ≤ sizeLine ∧ (a == sysModules) = false ∧
    ∃ xs, KT H kvs xs ∧ h.DictOfH (tupleKind (mixKind P w)) a xs := by
  obtain ⟨z, y, xs, r, o, es, ep, h1, h2, h3, h4, h5⟩ := (show ObjOk P w H h a (.dT kvs) from rd_of ok e)
  refine ⟨z, y, xs, r, o, es, ep, h1, h2, h3, h4, fun x hx => ?_, h5⟩
  have all : ∀ {l : List (List Key × V)} {m : List (List Key × Addr × Value)}, KT H l m → ∀ x ∈ m, (tupleKind (mixKind P w)).is h x.1 x.2.1 := by
    intro l m q
    induction q with
    | nil => intro x hx; exact nomatch hx
    | @cons p q ps qs hq t ih =>
      intro x hx
      rcases List.mem_cons.mp hx with e | hx
      · subst e
        exact key_of ok (by rw [← hq.1]; exact hq.2.1)
      · exact ih x hx
  exact all r x hx
theorem dt_of {kvs : List (List Key × V)} (ok : HOk P w H h) (e : H a = some (.dT kvs)) : kvs.length ≤ sizeLine ∧ (a == sysModules) = false ∧
    ∃ xs, KT H kvs xs ∧ h.DictOfH (tupleKind (mixKind P w)) a xs := dt_rd ok (.inl e)
end

/-- what the dict at a holds at the key y -/
def DGet (H : Hp) (a : Addr) (y : V) (r : Option V) : Prop :=
  (∃ kvs k, Rd H a (.dK kvs) ∧ y = kV k ∧ r = valV kvs k) ∨ ∃ kvs k b, Rd H a (.dT kvs) ∧ y = .ref b ∧ H b = some (.tup (k.map kV)) ∧ r = valV kvs k
/-- the heap behind a[y] = v -/
def DPut (H : Hp) (a : Addr) (y v : V) (H' : Hp) : Prop :=
  (∃ kvs k, H a = some (.dK kvs) ∧ y = kV k ∧ kvs.length < sizeLine ∧ H' = upd H a (.dK (putK kvs k v))) ∨
  ∃ kvs k b, H a = some (.dT kvs) ∧ y = .ref b ∧ H b = some (.tup (k.map kV)) ∧ kvs.length < sizeLine ∧ H' = upd H a (.dT (putK kvs k v))
theorem DGet.k {H : Hp} {a : Addr} {kvs : List (Key × V)} {k : Key} (e : H a = some (.dK kvs)) : DGet H a (kV k) (valV kvs k) := .inl ⟨kvs, k, .inl e, rfl, rfl⟩
theorem DGet.t {H : Hp} {a b : Addr} {kvs : List (List Key × V)} {k : List Key} (e : H a = some (.dT kvs)) (eb : H b = some (.tup (k.map kV))) : DGet H a (.ref b) (valV kvs k) := .inr ⟨kvs, k, b, .inl e, rfl, eb, rfl⟩
theorem DPut.k {H : Hp} {a : Addr} {kvs : List (Key × V)} {k : Key} {v : V} (e : H a = some (.dK kvs)) (hl : kvs.length < sizeLine) : DPut H a (kV k) v (upd H a (.dK (putK kvs k v))) := .inl ⟨kvs, k, e, rfl, hl, rfl⟩
theorem DPut.t {H : Hp} {a b : Addr} {kvs : List (List Key × V)} {k : List Key} {v : V} (e : H a = some (.dT kvs)) (eb : H b = some (.tup (k.map kV))) (hl : kvs.length < sizeLine) :
    DPut H a (.ref b) v (upd H a (.dT (putK kvs k v))) := .inr ⟨kvs, k, b, e, rfl, eb, hl, rfl⟩


section
variable {X : Cx} {pins : List (Addr × Obj)} {σ : St} {H : Hp} {s : Shared} {a : Addr} {y v : V} {u r : Value} {o : Option V} {A : Around} {E : Value → Shared → Prop}

theorem Inv.big (I : Inv X pins σ H s) : sysModules < s.heap.objs.size := by
  have h : mainGlobals < s.heap.objs.size := (I.mod.glob.keeps I.bk).lt
  exact Nat.lt_trans (by decide) h

/-- d[y], there -/
theorem d_getItem {Q : Value → Shared → Prop} (hu : A.units + 1 < cLine) (I : Inv X pins σ H s) (g : DGet H a y (some v)) (ry : RelV y u) (h : ∀ w' s', Inv X pins σ H s' → RelV v w' → Q w' s') :
    wpAny (model X.prog X.w) A (getItem (.ref a) u) Q E s := by
  rcases g with ⟨kvs, k, e, ey, l⟩ | ⟨kvs, k, b, e, ey, eb, l⟩
  · subst ey
    obtain ⟨z, hd, vs, rel, dd⟩ := dk_rd I.hok e
    obtain ⟨w', hw, rw'⟩ := RelO.some_of (v := v) (o := valueAt vs k) (by rw [l]; exact rel.val k)
    exact wpAny_getItem_of (kV_is ry) dd.mapOf hw (h w' _ (I.tok _) rw')
  · subst ey
    cases (show u = Value.ref b from ry)
    obtain ⟨z, hd, xs, rel, dd⟩ := dt_rd I.hok e
    obtain ⟨w', hw, rw'⟩ := RelO.some_of (v := v) (o := (atKey xs k).map (·.2)) (by rw [l]; exact rel.val k)
    obtain ⟨p, hp, hp2⟩ := Option.map_eq_some_iff.mp hw
    refine wpAny_getItem_heap (tupleKind_room_in1 hu) (key_of I.hok eb) dd hp ?_
    rw [hp2]
    exact h w' _ (I.tok _) rw'
/-- y in d -/
theorem d_in {Q : Value → Shared → Prop} (hu : A.units + 1 < cLine) (I : Inv X pins σ H s) (g : DGet H a y o) (ry : RelV y u) (h : ∀ s', Inv X pins σ H s' → Q (.bool o.isSome) s') :
    wpAny (model X.prog X.w) A (compareOp .In u (.ref a)) Q E s := by
  rcases g with ⟨kvs, k, e, ey, l⟩ | ⟨kvs, k, b, e, ey, eb, l⟩
  · subst ey
    obtain ⟨z, hd, vs, rel, dd⟩ := dk_rd I.hok e
    refine wpAny_in_of (kV_is ry) hd dd.mapOf ?_
    rw [← (rel.val k).isSome_eq, ← l]
    exact h _ (I.tok _)
  · subst ey
    cases (show u = Value.ref b from ry)
    obtain ⟨z, hd, xs, rel, dd⟩ := dt_rd I.hok e
    refine wpAny_in_heap (tupleKind_room_in1 hu) (key_of I.hok eb) hd dd ?_
    have q := (rel.val k).isSome_eq
    rw [Option.isSome_map] at q
    rw [← q, ← l]
    exact h _ (I.tok _)
theorem d_notIn {Q : Value → Shared → Prop} (hu : A.units + 1 < cLine) (I : Inv X pins σ H s) (g : DGet H a y o) (ry : RelV y u) (h : ∀ s', Inv X pins σ H s' → Q (.bool (!o.isSome)) s') :
    wpAny (model X.prog X.w) A (compareOp .NotIn u (.ref a)) Q E s := by
  rcases g with ⟨kvs, k, e, ey, l⟩ | ⟨kvs, k, b, e, ey, eb, l⟩
  · subst ey
    obtain ⟨z, hd, vs, rel, dd⟩ := dk_rd I.hok e
    refine wpAny_notIn_of (kV_is ry) hd dd.mapOf ?_
    rw [← (rel.val k).isSome_eq, ← l]
    exact h _ (I.tok _)
  · subst ey
    cases (show u = Value.ref b from ry)
    obtain ⟨z, hd, xs, rel, dd⟩ := dt_rd I.hok e
    refine wpAny_notIn_heap (tupleKind_room_in1 hu) (key_of I.hok eb) hd dd ?_
    have q := (rel.val k).isSome_eq
    rw [Option.isSome_map] at q
    rw [← q, ← l]
    exact h _ (I.tok _)
/-- a dict's object is replaced -/
theorem d_write {h' : Heap} {t' : Nat} {ob : HO} (I : Inv X pins σ H s) (mu : Mut (H a)) (hs : Heap.SameBut a s.heap h') (he : ∃ q, h'.get? a = some q) (new : ObjOk X.prog X.w (upd H a ob) h' a ob) :
    Inv X pins σ (upd H a ob) { s with heap := h', toks := t' } :=
  I.write (x := a) (e := a) mu (.inl rfl) (fun b q hb z => (hs.2 b hb).trans z) he new
theorem dk_new {P : Program} {w : World} {H' : Hp} {h' : Heap} {kvs : List (Key × V)} {vs : List (Key × Value)} (z : kvs.length ≤ sizeLine) (hd : (a == sysModules) = false) (rel : KV kvs vs) (dd : h'.DictOf (mixKind P w) a vs) :
    ObjOk P w H' h' a (.dK kvs) := ⟨z, hd, vs, rel, dd⟩
/-- d[y] = v -/
theorem d_setItem {H' : Hp} {Q : Unit → Shared → Prop} (hu : A.units + 1 < cLine) (I : Inv X pins σ H s) (g : DPut H a y v H') (ry : RelV y u) (rv : RelV v r) (h : ∀ s', Inv X pins σ H' s' → Q () s') :
    wpAny (model X.prog X.w) A (setItem (.ref a) u r) Q E s := by
  rcases g with ⟨kvs, k, e, ey, l, eH⟩ | ⟨kvs, k, b, e, ey, eb, l, eH⟩
  · subst ey eH
    obtain ⟨z, hd, vs, rel, dd⟩ := dk_of I.hok e
    have hz : vs.length ≤ sizeLine := by rw [← rel.length]; exact z
    have hl : (putK kvs k v).length ≤ sizeLine := by have := length_putK kvs k v; omega
    refine wpAny_setItem_pairs (hsz := hz) (kV_is ry) dd fun h' dd' hs => h _ ?_
    have he : ∃ q, h'.get? a = some q := let ⟨q, _, _, hq, _⟩ := dd'; ⟨q, hq⟩
    exact d_write I (by rw [e]; exact True.intro) hs he (dk_new hl hd (rel.put k rv) dd')
  · subst ey eH
    cases (show u = Value.ref b from ry)
    obtain ⟨z, hd, xs, rel, dd⟩ := dt_of I.hok e
    have hz : xs.length ≤ sizeLine := by rw [← Paired.length rel]; exact z
    have hl : (putK kvs k v).length ≤ sizeLine := by have := length_putK kvs k v; omega
    refine wpAny_setItem_heap (hsz := hz) (tupleKind_room_in1 hu) (key_of I.hok eb) dd fun h' dd' hs => h _ ?_
    obtain ⟨q, es, ep, hq, h2, h3, h4, _, h5⟩ := dd'
    refine d_write I (by rw [e]; exact True.intro) hs ⟨q, hq⟩ ⟨hl, hd, _, (rel.put k eb rv).keeps fun c ys ec => ?_, q, es, ep, hq, h2, h3, h4, h5⟩
    rw [upd_ne (ne_of ec e (fun z => nomatch z))]
    exact ec
end

section
variable {X : Cx} {pins : List (Addr × Obj)} {σ : St} {H : Hp} {s : Shared} {a : Addr} {kvs : List (Key × V)} {k : Key} {u : Value} {A : Around} {E : Value → Shared → Prop}
/-- del d[k] -/
theorem d_delItem {Q : Unit → Shared → Prop} (I : Inv X pins σ H s) (e : H a = some (.dK kvs)) (ry : RelV (kV k) u) (l : (valV kvs k).isSome = true) (h : ∀ s', Inv X pins σ (upd H a (.dK (dropK kvs k))) s' → Q () s') :
    wpAny (model X.prog X.w) A (delItem (.ref a) u) Q E s := by
  obtain ⟨z, hd, vs, rel, dd⟩ := dk_of I.hok e
  refine wpAny_delItem_slot dd.typeIs (by decide) PySem.F.slot_dict_delitem
    (call_meetsIn PySem.F.slot_dict_delitem dd.typeIs PySem.F.entry_dict_delitem (PySem.F.args_dict_delitem_2 _ _) (meets_dict_delitem_pairs (mixKind X.prog X.w) a (kV_is ry)) ⟨vs, dd, by rw [← rel.length]; exact z, by rw [← (rel.val k).isSome_eq]; exact l, fun h' dd' hs => h _ ?_⟩)
  have he : ∃ q, h'.get? a = some q := let ⟨q, _, _, hq, _⟩ := dd'; ⟨q, hq⟩
  exact d_write I (by rw [e]; exact True.intro) hs he (dk_new (Nat.le_trans (dropK_le kvs k) z) hd (rel.drop k) dd')
/-- d.pop(k[, x]), there -/
theorem d_pop {v : V} {more : List Value} {Q : Value → Shared → Prop} (I : Inv X pins σ H s) (e : H a = some (.dK kvs)) (ry : RelV (kV k) u) (l : valV kvs k = some v) (hm : more = [] ∨ ∃ x, more = [x])
    (h : ∀ w' s', Inv X pins σ (upd H a (.dK (dropK kvs k))) s' → RelV v w' → Q w' s') : wpAny (model X.prog X.w) A (call (.builtin "dict.pop") (.ref a :: u :: more)) Q E s := by
  obtain ⟨z, hd, vs, rel, dd⟩ := dk_of I.hok e
  obtain ⟨w', hw, rw'⟩ := RelO.some_of (v := v) (o := valueAt vs k) (by rw [← l]; exact rel.val k)
  have hp : (keyPart u).isSome = true := by
    cases k with
    | inl i => obtain ⟨t, q⟩ := (show ∃ t, u = Value.int i t from ry); subst q; rfl
    | inr x => obtain ⟨t, q⟩ := (show ∃ t, u = Value.str x t from ry); subst q; rfl
  have ha : argsOk "dict.pop" ⟨.ref a :: u :: more, []⟩ := by
    rcases hm with q | ⟨x, q⟩
    · subst q; exact PySem.F.args_dict_pop_2 _ _
    · subst q; exact PySem.F.args_dict_pop_3 _ _ _
  refine call_meetsIn PySem.F.slot_dict_pop dd.typeIs PySem.F.entry_dict_pop ha (meets_dict_pop_there (mixKind X.prog X.w) a (kV_is ry) more hm hp)
    ⟨vs, w', dd, by rw [← rel.length]; exact z, hw, fun h' dd' hs => h w' _ ?_ rw'⟩
  have he : ∃ q, h'.get? a = some q := let ⟨q, _, _, hq, _⟩ := dd'; ⟨q, hq⟩
  exact d_write I (by rw [e]; exact True.intro) hs he (dk_new (Nat.le_trans (dropK_le kvs k) z) hd (rel.drop k) dd')
/-- d.pop(k, x), not there -/
theorem d_popD {r : Value} {Q : Value → Shared → Prop} (I : Inv X pins σ H s) (e : H a = some (.dK kvs)) (ry : RelV (kV k) u) (l : valV kvs k = none) (h : ∀ s', Inv X pins σ H s' → Q r s') :
    wpAny (model X.prog X.w) A (call (.builtin "dict.pop") [.ref a, u, r]) Q E s := by
  obtain ⟨z, hd, vs, rel, dd⟩ := dk_of I.hok e
  have hn : valueAt vs k = none := RelO.none_of (by rw [← l]; exact rel.val k)
  have hp : (keyPart u).isSome = true := by
    cases k with
    | inl i => obtain ⟨t, q⟩ := (show ∃ t, u = Value.int i t from ry); subst q; rfl
    | inr x => obtain ⟨t, q⟩ := (show ∃ t, u = Value.str x t from ry); subst q; rfl
  exact call_meetsIn PySem.F.slot_dict_pop dd.typeIs PySem.F.entry_dict_pop (PySem.F.args_dict_pop_3 _ _ _) (meets_dict_pop_default (mixKind X.prog X.w) a (kV_is ry) hd hp r) ⟨vs, dd, hn, h _ (I.tok _)⟩
/-- d.clear() -/
theorem d_clear {Q : Value → Shared → Prop} (I : Inv X pins σ H s) (e : H a = some (.dK kvs)) (h : ∀ s', Inv X pins σ (upd H a (.dK [])) s' → Q .none s') : wpAny (model X.prog X.w) A (call (.builtin "dict.clear") [.ref a]) Q E s := by
  obtain ⟨z, hd, vs, rel, dd⟩ := dk_of I.hok e
  refine call_meetsIn PySem.F.slot_dict_clear dd.typeIs PySem.F.entry_dict_clear (PySem.F.args_dict_clear_1 _) (meets_dict_clear (mixKind X.prog X.w) a) ⟨vs, dd, by rw [← rel.length]; exact z, fun h' dd' hs => h _ ?_⟩
  have he : ∃ q, h'.get? a = some q := let ⟨q, _, _, hq, _⟩ := dd'; ⟨q, hq⟩
  exact d_write (t' := s.toks) I (by rw [e]; exact True.intro) hs he (dk_new (Nat.zero_le _) hd .nil dd')
/-- len(d) -/
theorem d_len {Q : Value → Shared → Prop} (I : Inv X pins σ H s) (e : Rd H a (.dK kvs)) (h : ∀ t s', Inv X pins σ H s' → Q (.int kvs.length t) s') : wpAny (model X.prog X.w) A (call (.builtin "len") [.ref a]) Q E s := by
  obtain ⟨z, hd, vs, rel, dd⟩ := dk_rd I.hok e
  refine call_len_dict hd dd (by rw [← rel.length]; rw [sizeLine_eq] at z; omega) ?_
  rw [← rel.length]
  exact h _ _ (I.tok _)
/-- if d -/
theorem d_truth {Q : Bool → Shared → Prop} (I : Inv X pins σ H s) (e : Rd H a (.dK kvs)) (h : ∀ s', Inv X pins σ H s' → Q (!kvs.isEmpty) s') : wpAny (model X.prog X.w) A (truthy (.ref a)) Q E s := by
  obtain ⟨z, hd, vs, rel, dd⟩ := dk_rd I.hok e
  refine wpAny_truthy_dict hd dd (by rw [← rel.length]; rw [sizeLine_eq] at z; omega) ?_
  have q : kvs.isEmpty = vs.isEmpty := by cases rel <;> rfl
  rw [← q]
  exact h _ (I.tok _)
end


/-! ### readings and rules -/
/-- the element of a subscription, not a slice -/
def NoSl (i : Expr) : Prop := ∀ ov iv, subscripted i false ov iv = operate [ov, iv] (getItem ov iv)
theorem subD_of {prog : Program} {w : World} {A : Around} {E : Value → Shared → Prop} {s : Shared} {env : Env} {value slice : Expr} {pos : Pos} {T id : String} {Q : Value → Shared → Prop}
    (hl : typeLookup (.type T) "__getitem__" = pure (some (.builtin id))) (hs : NoSl slice)
    (h : wpAny (model prog w) A (eval value env) (fun o s₁ => wpAny (model prog w) A (eval slice env) (fun i s₂ => s₂.TypeIs o T ∧ wpAny (model prog w) A (getItem o i) Q E s₂) E s₁) E s) :
    wpAny (model prog w) A (eval (.Subscript value slice pos) env) Q E s := by
  refine Subscript_ (wpAny_mono h (fun o s₁ h₁ => wpAny_mono h₁ (fun i s₂ h₂ => ?_) fun _ _ x => x) fun _ _ x => x)
  obtain ⟨hT, h₂⟩ := h₂
  unfold subscriptTail
  refine wpAny_bind ?_
  rw [getitemInPython_of_ne hT.not_modules]
  refine wpAny_bind (wpAny_specialOf hT hl ?_)
  have fin : wpAny (model prog w) A (subscripted slice false o i) (fun r s₃ => wpAny (model prog w) A (letTemporaryGo value o r >>= fun _ => pure r) Q E s₃) E s₂ := by
    rw [hs o i]
    exact wpAny_operating (wpAny_mono h₂ (fun r s₃ h₃ => wpAny_bind (wpAny_letTemporaryGo (wpAny_pure h₃))) fun _ _ x => x)
  first
    | exact wpAny_pure (wpAny_bind fin)
    | exact wpAny_bind (wpAny_pure (wpAny_bind fin))
    | exact wpAny_bind fin

theorem dict_typeIs {X : Cx} {pins : List (Addr × Obj)} {σ : St} {H : Hp} {s : Shared} {a : Addr} {y : V} {o : Option V} (I : Inv X pins σ H s) (g : DGet H a y o) : s.TypeIs (.ref a) "dict" := by
  rcases g with ⟨kvs, k, e, _, _⟩ | ⟨kvs, k, b, e, _, _, _⟩
  · obtain ⟨_, _, vs, _, dd⟩ := dk_rd I.hok e
    exact dd.typeIs
  · obtain ⟨_, _, xs, _, dd⟩ := dt_rd I.hok e
    exact dd.typeIs
theorem dict_noDict {X : Cx} {pins : List (Addr × Obj)} {σ : St} {H : Hp} {s : Shared} {a : Addr} {y : V} {o : Option V} (I : Inv X pins σ H s) (g : DGet H a y o) :
    ∀ b, Value.ref a = .ref b → ∃ ob, s.heap.get? b = some ob ∧ ob.dict = none := fun b q => by
  cases q
  rcases g with ⟨kvs, k, e, _, _⟩ | ⟨kvs, k, b, e, _, _, _⟩
  · obtain ⟨_, _, vs, _, ob, _, _, h1, h2, _⟩ := dk_rd I.hok e
    exact ⟨ob, h1, h2.2.1⟩
  · obtain ⟨_, _, xs, _, ob, _, _, h1, h2, _⟩ := dt_rd I.hok e
    exact ⟨ob, h1, h2.2.1⟩

/-- d[y] -/
def tDGet (td ty : TE) : TE := fun σ H Q => td σ H fun x H1 => ty σ H1 fun y H2 => ∃ a v, x = .ref a ∧ DGet H2 a y (some v) ∧ Q v H2
/-- y in d, y not in d -/
def tDIn (ty td : TE) : TE := fun σ H Q => ty σ H fun y H1 => td σ H1 fun x H2 => ∃ a o, x = .ref a ∧ DGet H2 a y o ∧ Q (.bl o.isSome) H2
def tDNotIn (ty td : TE) : TE := fun σ H Q => ty σ H fun y H1 => td σ H1 fun x H2 => ∃ a o, x = .ref a ∧ DGet H2 a y o ∧ Q (.bl (!o.isSome)) H2
/-- d[y] = v -/
def sDPut (td ty tv : TE) : TS := fun D σ H => tv σ H fun v H1 => td σ H1 fun x H2 => ty σ H2 fun y H3 => ∃ a H4, x = .ref a ∧ DPut H3 a y v H4 ∧ D.nx σ H4
/-- d[y] op= v -/
def sDAug (td ty tv : TE) (rd : V → V → Hp → VK → Prop) : TS := fun D σ H => td σ H fun x H1 => ty σ H1 fun y H2 => ∃ a v, x = .ref a ∧ DGet H2 a y (some v) ∧
  tv σ H2 fun y2 H3 => rd v y2 H3 fun z H4 => ∃ H5, DPut H4 a y z H5 ∧ D.nx σ H5
/-- del d[y] -/
def sDDel (td ty : TE) : TS := fun D σ H => td σ H fun x H1 => ty σ H1 fun y H2 => ∃ a kvs k, x = .ref a ∧ H2 a = some (.dK kvs) ∧ y = kV k ∧ (valV kvs k).isSome = true ∧ D.nx σ (upd H2 a (.dK (dropK kvs k)))

section
variable {X : Cx} {o i e value : Expr} {pos pos' tpos : Pos} {td ty tv : TE}
theorem pe_dget (hu : X.A.units + 1 < cLine) (ho : PE X o td) (hi : PE X i ty) (hs : NoSl i) : PE X (.Subscript o i pos) (tDGet td ty) := by
  intro pins s σ H Q I h
  refine subD_of PySem.F.slot_dict_getitem.lookup hs (thn (ho pins s σ H _ I h) fun u s1 ⟨x, H1, I1, rx, q1⟩ => thn (hi pins s1 σ H1 _ I1 q1) fun iv s2 ⟨y, H2, I2, ry, a, v, ex, g, q2⟩ => ?_)
  subst ex
  obtain rfl : u = Value.ref a := rx
  exact ⟨dict_typeIs I2 g, d_getItem hu I2 g ry fun w' s3 I3 rw' => ⟨v, H2, I3, rw', q2⟩⟩
theorem pc_din (hu : X.A.units + 1 < cLine) (hi : PE X i ty) (ho : PE X o td) : PC X .In i o (tDIn ty td) := by
  intro pins s σ H Q I h
  refine thn (hi pins s σ H _ I h) fun iv s1 ⟨y, H1, I1, ry, q1⟩ => thn (ho pins s1 σ H1 _ I1 q1) fun u s2 ⟨x, H2, I2, rx, a, ov, ex, g, q2⟩ => ?_
  subst ex
  obtain rfl : u = Value.ref a := rx
  exact d_in hu I2 g ry fun s3 I3 => ⟨.bl ov.isSome, H2, I3, rfl, q2⟩
theorem pc_dnotin (hu : X.A.units + 1 < cLine) (hi : PE X i ty) (ho : PE X o td) : PC X .NotIn i o (tDNotIn ty td) := by
  intro pins s σ H Q I h
  refine thn (hi pins s σ H _ I h) fun iv s1 ⟨y, H1, I1, ry, q1⟩ => thn (ho pins s1 σ H1 _ I1 q1) fun u s2 ⟨x, H2, I2, rx, a, ov, ex, g, q2⟩ => ?_
  subst ex
  obtain rfl : u = Value.ref a := rx
  exact d_notIn hu I2 g ry fun s3 I3 => ⟨.bl (!ov.isSome), H2, I3, rfl, q2⟩
theorem ps_dput (hu : X.A.units + 1 < cLine) (ho : PE X o td) (hi : PE X i ty) (hv : PE X value tv) (hs : swapsWith value (some (.Subscript o i pos')) pos.line X.env = pure false) :
    PS X (.Assign [.Subscript o i pos'] value pos) (sDPut td ty tv) := by
  intro pins s σ H D I h
  refine wpAny_Assign_Subscript (thn (hv pins s σ H _ I h) fun r s1 ⟨v, H1, I1, rv, q1⟩ => thn (ho pins s1 σ H1 _ I1 q1) fun u s2 ⟨x, H2, I2, rx, q2⟩ => thn (hi pins s2 σ H2 _ I2 q2) fun iv s3 ⟨y, H3, I3, ry, a, H4, ex, g, q3⟩ => ?_) hs
  subst ex
  obtain rfl : u = Value.ref a := rx
  exact d_setItem hu I3 g ry rv fun s4 I4 => ⟨σ, H4, I4, q3⟩
theorem ps_daug {op : Operator} {rd : V → V → Hp → VK → Prop} (hu : X.A.units + 1 < cLine) (ho : PE X o td) (hi : PE X i ty) (hv : PE X value tv) (hop : InOp X op rd)
    (ha : ∀ ov iv new, augStore i ov iv new = (do holding [new, ov, iv] (setItem ov iv new); release [new, ov, iv] []; pure .next)) : PS X (.AugAssign (.Subscript o i tpos) op value pos) (sDAug td ty tv rd) := by
  intro pins s σ H D I h
  refine wpAny_AugAssign_SubscriptAny (thn (ho pins s σ H _ I h) fun u s1 ⟨x, H1, I1, rx, q1⟩ => thn (hi pins s1 σ H1 _ I1 q1) fun iv s2 ⟨y, H2, I2, ry, a, v, ex, g, q2⟩ => ?_) ha
  subst ex
  obtain rfl : u = Value.ref a := rx
  refine d_getItem hu I2 g ry fun w' s3 I3 rw' => thn (hv pins s3 σ H2 _ I3 q2) fun w2 s4 ⟨y2, H3, I4, ry2, q3⟩ => thn (hop pins s4 σ H3 v y2 w' w2 _ I4 rw' ry2 q3) fun w3 s5 ⟨z, H4, I5, rz, H5, g5, q4⟩ => ?_
  exact d_setItem hu I5 g5 ry rz fun s6 I6 => ⟨σ, H5, I6, q4⟩
theorem ps_ddel (ho : PE X o td) (hi : PE X i ty) : PS X (.Delete [.Subscript o i tpos] pos) (sDDel td ty) := by
  intro pins s σ H D I h
  refine wpAny_Delete (wpAny_deleteEach_cons (wpAny_delete_Subscript (thn (ho pins s σ H _ I h) fun u s1 ⟨x, H1, I1, rx, q1⟩ => thn (hi pins s1 σ H1 _ I1 q1) fun iv s2 ⟨y, H2, I2, ry, a, kvs, k, ex, e, ey, l, q2⟩ => ?_)))
  subst ex ey
  obtain rfl : u = Value.ref a := rx
  exact d_delItem I2 e ry l fun s3 I3 => wpAny_deleteEach_nil ⟨σ, _, I3, q2⟩
end


/-! ### displays -/
theorem dk_empty {P : Program} {w : World} {H : Hp} (h : Heap) (hb : sysModules < h.objs.size) : ObjOk P w H (h.push { cls := .type "dict", data := .dict #[] }) h.objs.size (.dK []) :=
  ⟨Nat.zero_le _, beq_eq_false_iff_ne.mpr (Ne.symm (Nat.ne_of_lt hb)), [], .nil, Heap.DictOf.new h⟩
theorem dt_empty {P : Program} {w : World} {H : Hp} (h : Heap) (hb : sysModules < h.objs.size) : ObjOk P w H (h.push { cls := .type "dict", data := .dict #[] }) h.objs.size (.dT []) :=
  ⟨Nat.zero_le _, beq_eq_false_iff_ne.mpr (Ne.symm (Nat.ne_of_lt hb)), [], .nil, _, #[], 0, Heap.get?_push_size _ rfl, ⟨rfl, rfl, rfl⟩, rfl, rfl, List.nodup_nil⟩
/-- {}, to be a dict of the kind that is wanted -/
def tDNewK : TE := fun _ H Q => ∀ p, H p = none → Q (.ref p) (upd H p (.dK []))
def tDNewT : TE := fun _ H Q => ∀ p, H p = none → Q (.ref p) (upd H p (.dT []))
section
variable {X : Cx} {pos : Pos}
theorem pe_dnewK : PE X (.Dict [] [] pos) tDNewK := fun pins s σ H Q I h =>
  wpAny_Dict_empty ⟨.ref s.heap.objs.size, _, I.laid (a := s.heap.objs.size) (o := .dK []) (t' := s.toks) (fun _ _ q => Heap.get?_push_of_some _ q) (Nat.le_refl _) (dk_empty s.heap I.big), rfl, h _ (I.hok.fresh (Nat.le_refl _))⟩
theorem pe_dnewT : PE X (.Dict [] [] pos) tDNewT := fun pins s σ H Q I h =>
  wpAny_Dict_empty ⟨.ref s.heap.objs.size, _, I.laid (a := s.heap.objs.size) (o := .dT []) (t' := s.toks) (fun _ _ q => Heap.get?_push_of_some _ q) (Nat.le_refl _) (dt_empty s.heap I.big), rfl, h _ (I.hok.fresh (Nat.le_refl _))⟩
end

/-- the pairs of a display, from the left -/
def tPairs : List (TE × TE) → St → Hp → (List (V × V) → Hp → Prop) → Prop
  | [], _, H, Q => Q [] H
  | (tk, tv) :: r, σ, H, Q => tk σ H fun x H1 => tv σ H1 fun y H2 => tPairs r σ H2 fun ps H3 => Q ((x, y) :: ps) H3
abbrev VV : List (V × V) → List (Value × Value) → Prop := Paired fun p q => RelV p.1 q.1 ∧ RelV p.2 q.2
def PPs (X : Cx) (pos : Pos) (keys : List (Option Expr)) (values : List Expr) (trs : List (TE × TE)) : Prop :=
  ∀ (pins : List (Addr × Obj)) (s : Shared) (σ : St) (H : Hp) (Q : List (V × V) → Hp → Prop), Inv X pins σ H s → tPairs trs σ H Q →
    wpAny (model X.prog X.w) X.A (evalPairs (pairTrees keys values X.env pos)) (fun vs s' => ∃ ps H', Inv X pins σ H' s' ∧ VV ps vs ∧ Q ps H') X.xe s
theorem pps_nil {X : Cx} {pos : Pos} : PPs X pos [] [] [] := fun pins s σ H Q I h => pairTrees_nil_walk ⟨[], H, I, .nil, h⟩
theorem pps_cons {X : Cx} {pos : Pos} {k v : Expr} {ks : List (Option Expr)} {vs : List Expr} {tk tv : TE} {trs : List (TE × TE)} (hk : PE X k tk) (hv : PE X v tv) (hr : PPs X pos ks vs trs) :
    PPs X pos (some k :: ks) (v :: vs) ((tk, tv) :: trs) := fun pins s σ H Q I h =>
  pairTrees_cons_walk (thn (hk pins s σ H _ I h) fun u s1 ⟨x, H1, I1, rx, q1⟩ => thn (hv pins s1 σ H1 _ I1 q1) fun w2 s2 ⟨y, H2, I2, ry, q2⟩ =>
    thn (hr pins s2 σ H2 _ I2 q2) fun ws s3 ⟨ps, H3, I3, rel, q3⟩ => ⟨(x, y) :: ps, H3, I3, .cons ⟨rx, ry⟩ rel, q3⟩)

def mergeK (kvs more : List (Key × V)) : List (Key × V) := more.foldl (fun acc kv => putK acc kv.1 kv.2) kvs
theorem KV.merge : ∀ {more : List (Key × V)} {rs : List (Key × Value)} {kvs : List (Key × V)} {vs : List (Key × Value)}, KV more rs → KV kvs vs → KV (mergeK kvs more) (merged vs rs) := by
  intro more rs kvs vs r
  unfold KV at r
  induction r generalizing kvs vs with
  | nil => intro q; exact q
  | @cons p q ps qs h t ih =>
    intro r0
    have e : KV (putK kvs p.1 p.2) (stored vs q.1 q.2) := by
      have := r0.put p.1 h.2
      rw [← h.1]; exact this
    exact ih e
theorem length_mergeK : ∀ (more kvs : List (Key × V)), (mergeK kvs more).length ≤ kvs.length + more.length
  | [], kvs => by show kvs.length ≤ kvs.length + 0; omega
  | p :: r, kvs => by
    have h1 := length_mergeK r (putK kvs p.1 p.2)
    have h2 := length_putK kvs p.1 p.2
    show (mergeK (putK kvs p.1 p.2) r).length ≤ _
    rw [List.length_cons]; omega
theorem carries_of {P : Program} {w : World} : ∀ {kvs : List (Key × V)} {ws : List (Value × Value)}, VV (kvs.map fun kv => (kV kv.1, kv.2)) ws → ∃ rs, Carries (mixKind P w) ws rs ∧ KV kvs rs
  | [], _, r => by rw [List.map_nil] at r; cases r; exact ⟨[], True.intro, .nil⟩
  | p :: kvs, _, r => by
    rw [List.map_cons] at r
    cases r with
    | @cons a b as bs h t =>
      obtain ⟨rs, c, q⟩ := carries_of (P := P) (w := w) t
      obtain ⟨b1, b2⟩ := b
      exact ⟨(p.1, b2) :: rs, ⟨kV_is h.1, rfl, c⟩, .cons ⟨rfl, h.2⟩ q⟩
/-- {k: v, ..} with keys ints and texts; the new dict stands empty while the pairs are made -/
def tDisp (trs : List (TE × TE)) : TE := fun σ H Q => ∀ p, H p = none → tPairs trs σ (upd H p (.dK [])) fun ps H2 => H2 p = some (.dK []) ∧ ∃ kvs : List (Key × V), ps = kvs.map (fun kv => (kV kv.1, kv.2)) ∧ kvs.length ≤ 15 ∧ Q (.ref p) (upd H2 p (.dK (mergeK [] kvs)))
theorem pe_disp {X : Cx} {pos : Pos} {keys : List (Option Expr)} {values : List Expr} {trs : List (TE × TE)} (h : PPs X pos keys values trs) (hall : keys.all (·.isSome) = true) (hl : keys.length = values.length) (h0 : keys ≠ [])
    (h15 : keys.length ≤ 15) : PE X (.Dict keys values pos) (tDisp trs) := by
  intro pins s σ H Q I q
  have hn := I.hok.fresh (Nat.le_refl s.heap.objs.size)
  have I1 := I.laid (a := s.heap.objs.size) (o := .dK []) (h' := s.heap.push { cls := .type "dict", data := .dict #[] }) (t' := s.toks) (fun _ _ q => Heap.get?_push_of_some _ q) (Nat.le_refl _) (dk_empty s.heap I.big)
  refine wpAny_Dict_walk (knd := mixKind X.prog X.w) hall hl h0 h15 (thn (h pins _ σ _ _ I1 (q _ hn)) fun ws s2 ⟨ps, H2, I2, rel, e, kvs, ep, lk, q2⟩ => ?_)
  subst ep
  obtain ⟨rs, c, rk⟩ := carries_of (P := X.prog) (w := X.w) rel
  obtain ⟨z, hd, vs0, r0, dd⟩ := dk_of I2.hok e
  cases r0
  refine ⟨rs, c, dd, fun h' dd' hs => ⟨.ref s.heap.objs.size, _, ?_, rfl, q2⟩⟩
  have hz : (mergeK [] kvs).length ≤ sizeLine := by
    have h1 := length_mergeK kvs []
    rw [List.length_nil] at h1
    rw [sizeLine_eq]; omega
  have he : ∃ q, h'.get? s.heap.objs.size = some q := let ⟨q, _, _, hq, _⟩ := dd'; ⟨q, hq⟩
  exact d_write I2 (by rw [e]; exact True.intro) hs he (dk_new hz hd (rk.merge .nil) dd')


/-! ### methods -/
/-- a method call o.m(e) of a built-in, with one argument: what must be seen of the text -/
structure M1 (X : Cx) (o : Expr) (m : Str) (apos : Pos) (e : Expr) (cpos : Pos) : Prop where
  base : attributeBase o m X.env (eval o X.env) = eval o X.env
  few : ((backTo cpos (starEach [e] X.env)).all (fun x => !x.1) && (backToKw cpos (keywordEach [] X.env)).all (fun x => x.1.isSome)
    && decide (([e] : List Expr).length + ([] : List Keyword).length + (if ([] : List Keyword).isEmpty then 0 else 1) < 30)) = true
  line : (apos.endLine == cpos.line) = true
  trees : backTo cpos (starEach [e] X.env) = [(false, eval e X.env)]
structure M2 (X : Cx) (o : Expr) (m : Str) (apos : Pos) (e f : Expr) (cpos : Pos) : Prop where
  base : attributeBase o m X.env (eval o X.env) = eval o X.env
  few : ((backTo cpos (starEach [e, f] X.env)).all (fun x => !x.1) && (backToKw cpos (keywordEach [] X.env)).all (fun x => x.1.isSome)
    && decide (([e, f] : List Expr).length + ([] : List Keyword).length + (if ([] : List Keyword).isEmpty then 0 else 1) < 30)) = true
  line : (apos.endLine == cpos.line) = true
  trees : backTo cpos (starEach [e, f] X.env) = [(false, eval e X.env), (false, eval f X.env)]

/-- a is a dict, whatever its keys -/
def IsD (H : Hp) (a : Addr) : Prop := (∃ kvs, Rd H a (.dK kvs)) ∨ ∃ kvs, Rd H a (.dT kvs)
theorem isD_at {X : Cx} {pins : List (Addr × Obj)} {σ : St} {H : Hp} {s : Shared} {a : Addr} (I : Inv X pins σ H s) (d : IsD H a) :
    s.TypeIs (.ref a) "dict" ∧ (∀ b, Value.ref a = .ref b → ∃ ob, s.heap.get? b = some ob ∧ ob.dict = none) ∧ (a == sysModules) = false := by
  rcases d with ⟨kvs, e⟩ | ⟨kvs, e⟩
  · obtain ⟨_, hd, vs, _, dd⟩ := dk_rd I.hok e
    refine ⟨dd.typeIs, fun b q => ?_, hd⟩
    cases q
    obtain ⟨ob, _, _, h1, h2, _⟩ := dd
    exact ⟨ob, h1, h2.2.1⟩
  · obtain ⟨_, hd, xs, _, dd⟩ := dt_rd I.hok e
    refine ⟨dd.typeIs, fun b q => ?_, hd⟩
    cases q
    obtain ⟨ob, _, _, h1, h2, _⟩ := dd
    exact ⟨ob, h1, h2.2.1⟩

section
variable {X : Cx} {pins : List (Addr × Obj)} {σ : St} {H : Hp} {s : Shared} {a : Addr} {y d : V} {u r : Value} {o : Option V} {A : Around} {E : Value → Shared → Prop}
/-- d.get(y) -/
theorem d_get1 {Q : Value → Shared → Prop} (hu : A.units + 1 < cLine) (I : Inv X pins σ H s) (g : DGet H a y o) (ry : RelV y u) (h : ∀ w' s', Inv X pins σ H s' → RelV (o.getD .non) w' → Q w' s') :
    wpAny (model X.prog X.w) A (call (.builtin "dict.get") [.ref a, u]) Q E s := by
  rcases g with ⟨kvs, k, e, ey, l⟩ | ⟨kvs, k, b, e, ey, eb, l⟩
  · subst ey
    obtain ⟨z, hd, vs, rel, dd⟩ := dk_rd I.hok e
    refine call_meetsIn PySem.F.slot_dict_get dd.typeIs PySem.F.entry_dict_get (PySem.F.args_dict_get_2 _ _) (meets_dict_get (mixKind X.prog X.w) a (kV_is ry) hd) ⟨_, dd.mapOf, h _ _ (I.tok _) ?_⟩
    rw [l]
    exact (rel.val k).getD rfl
  · subst ey
    cases (show u = Value.ref b from ry)
    obtain ⟨z, hd, xs, rel, dd⟩ := dt_rd I.hok e
    refine call_meetsIn PySem.F.slot_dict_get dd.typeIs PySem.F.entry_dict_get (PySem.F.args_dict_get_2 _ _) (meetsH_dict_get (tupleKind (mixKind X.prog X.w)) a b hd) ⟨tupleKind_room_in1 hu, k, xs, key_of I.hok eb, dd, h _ _ (I.tok _) ?_⟩
    rw [l]
    exact (rel.val k).getD rfl
/-- d.get(y, x) -/
theorem d_get2 {Q : Value → Shared → Prop} (hu : A.units + 1 < cLine) (I : Inv X pins σ H s) (g : DGet H a y o) (ry : RelV y u) (rd : RelV d r) (h : ∀ w' s', Inv X pins σ H s' → RelV (o.getD d) w' → Q w' s') :
    wpAny (model X.prog X.w) A (call (.builtin "dict.get") [.ref a, u, r]) Q E s := by
  rcases g with ⟨kvs, k, e, ey, l⟩ | ⟨kvs, k, b, e, ey, eb, l⟩
  · subst ey
    obtain ⟨z, hd, vs, rel, dd⟩ := dk_rd I.hok e
    refine call_meetsIn PySem.F.slot_dict_get dd.typeIs PySem.F.entry_dict_get (PySem.F.args_dict_get_3 _ _ _) (meets_dict_get_default (mixKind X.prog X.w) a (kV_is ry) hd r) ⟨_, dd.mapOf, h _ _ (I.tok _) ?_⟩
    rw [l]
    exact (rel.val k).getD rd
  · subst ey
    cases (show u = Value.ref b from ry)
    obtain ⟨z, hd, xs, rel, dd⟩ := dt_rd I.hok e
    refine call_meetsIn PySem.F.slot_dict_get dd.typeIs PySem.F.entry_dict_get (PySem.F.args_dict_get_3 _ _ _) (meetsH_dict_get_default (tupleKind (mixKind X.prog X.w)) a b hd r) ⟨tupleKind_room_in1 hu, k, xs, key_of I.hok eb, dd, h _ _ (I.tok _) ?_⟩
    rw [l]
    exact (rel.val k).getD rd
end

def tDGet1 (td ty : TE) : TE := fun σ H Q => td σ H fun x H1 => ∃ a, x = .ref a ∧ IsD H1 a ∧ ty σ H1 fun y H2 => ∃ o, DGet H2 a y o ∧ Q (o.getD .non) H2
def tDGet2 (td ty tx : TE) : TE := fun σ H Q => td σ H fun x H1 => ∃ a, x = .ref a ∧ IsD H1 a ∧ ty σ H1 fun y H2 => tx σ H2 fun z H3 => ∃ o, DGet H3 a y o ∧ Q (o.getD z) H3
/-- d.pop(k): there; d.pop(k, x): there or not -/
def tDPop1 (td ty : TE) : TE := fun σ H Q => td σ H fun x H1 => ∃ a, x = .ref a ∧ IsD H1 a ∧ ty σ H1 fun y H2 => ∃ kvs k v, H2 a = some (.dK kvs) ∧ y = kV k ∧ valV kvs k = some v ∧ Q v (upd H2 a (.dK (dropK kvs k)))
def tDPop2 (td ty tx : TE) : TE := fun σ H Q => td σ H fun x H1 => ∃ a, x = .ref a ∧ IsD H1 a ∧ ty σ H1 fun y H2 => tx σ H2 fun z H3 => ∃ kvs k, H3 a = some (.dK kvs) ∧ y = kV k ∧
  (∀ v, valV kvs k = some v → Q v (upd H3 a (.dK (dropK kvs k)))) ∧ (valV kvs k = none → Q z H3)
section
variable {X : Cx} {o e f : Expr} {apos cpos : Pos} {td ty tx : TE}
theorem pe_dget1 (hu : X.A.units + 1 < cLine) (ho : PE X o td) (he : PE X e ty) (m : M1 X o "get" apos e cpos) : PE X (.Call (.Attribute o "get" apos) [e] [] cpos) (tDGet1 td ty) := by
  intro pins s σ H Q I h
  refine wpAny_Call_method m.base m.few m.line PySem.F.plainAttrs_dict PySem.F.slot_dict_get PySem.F.type_dict_get (thn (ho pins s σ H _ I h) fun u s1 ⟨x, H1, I1, rx, a, ex, d, q1⟩ => ?_)
  subst ex
  obtain rfl : u = Value.ref a := rx
  obtain ⟨t1, t2, _⟩ := isD_at I1 d
  refine ⟨t1, t2, ?_⟩
  rw [m.trees]
  refine Calls.callWith_builtin rfl (Calls.evalArgs_plain (Calls.spliced_cons (thn (he pins s1 σ H1 _ I1 q1) fun iv s2 ⟨y, H2, I2, ry, ov, g, q2⟩ => Calls.spliced_nil ?_)))
  exact d_get1 hu I2 g ry fun w' s3 I3 rw' => ⟨_, H2, I3, rw', q2⟩
theorem pe_dget2 (hu : X.A.units + 1 < cLine) (ho : PE X o td) (he : PE X e ty) (hf : PE X f tx) (m : M2 X o "get" apos e f cpos) : PE X (.Call (.Attribute o "get" apos) [e, f] [] cpos) (tDGet2 td ty tx) := by
  intro pins s σ H Q I h
  refine wpAny_Call_method m.base m.few m.line PySem.F.plainAttrs_dict PySem.F.slot_dict_get PySem.F.type_dict_get (thn (ho pins s σ H _ I h) fun u s1 ⟨x, H1, I1, rx, a, ex, d, q1⟩ => ?_)
  subst ex
  obtain rfl : u = Value.ref a := rx
  obtain ⟨t1, t2, _⟩ := isD_at I1 d
  refine ⟨t1, t2, ?_⟩
  rw [m.trees]
  refine Calls.callWith_builtin rfl (Calls.evalArgs_plain (Calls.spliced_cons (thn (he pins s1 σ H1 _ I1 q1) fun iv s2 ⟨y, H2, I2, ry, q2⟩ =>
    Calls.spliced_cons (thn (hf pins s2 σ H2 _ I2 q2) fun fv s3 ⟨z, H3, I3, rz, ov, g, q3⟩ => Calls.spliced_nil ?_))))
  exact d_get2 hu I3 g ry rz fun w' s4 I4 rw' => ⟨_, H3, I4, rw', q3⟩
theorem pe_dpop1 (ho : PE X o td) (he : PE X e ty) (m : M1 X o "pop" apos e cpos) : PE X (.Call (.Attribute o "pop" apos) [e] [] cpos) (tDPop1 td ty) := by
  intro pins s σ H Q I h
  refine wpAny_Call_method m.base m.few m.line PySem.F.plainAttrs_dict PySem.F.slot_dict_pop PySem.F.type_dict_pop (thn (ho pins s σ H _ I h) fun u s1 ⟨x, H1, I1, rx, a, ex, d, q1⟩ => ?_)
  subst ex
  obtain rfl : u = Value.ref a := rx
  obtain ⟨t1, t2, _⟩ := isD_at I1 d
  refine ⟨t1, t2, ?_⟩
  rw [m.trees]
  refine Calls.callWith_builtin rfl (Calls.evalArgs_plain (Calls.spliced_cons (thn (he pins s1 σ H1 _ I1 q1) fun iv s2 ⟨y, H2, I2, ry, kvs, k, v, ea, ey, l, q2⟩ => Calls.spliced_nil ?_)))
  subst ey
  exact d_pop I2 ea ry l (.inl rfl) fun w' s3 I3 rw' => ⟨v, _, I3, rw', q2⟩
theorem pe_dpop2 (ho : PE X o td) (he : PE X e ty) (hf : PE X f tx) (m : M2 X o "pop" apos e f cpos) : PE X (.Call (.Attribute o "pop" apos) [e, f] [] cpos) (tDPop2 td ty tx) := by
  intro pins s σ H Q I h
  refine wpAny_Call_method m.base m.few m.line PySem.F.plainAttrs_dict PySem.F.slot_dict_pop PySem.F.type_dict_pop (thn (ho pins s σ H _ I h) fun u s1 ⟨x, H1, I1, rx, a, ex, d, q1⟩ => ?_)
  subst ex
  obtain rfl : u = Value.ref a := rx
  obtain ⟨t1, t2, _⟩ := isD_at I1 d
  refine ⟨t1, t2, ?_⟩
  rw [m.trees]
  refine Calls.callWith_builtin rfl (Calls.evalArgs_plain (Calls.spliced_cons (thn (he pins s1 σ H1 _ I1 q1) fun iv s2 ⟨y, H2, I2, ry, q2⟩ =>
    Calls.spliced_cons (thn (hf pins s2 σ H2 _ I2 q2) fun fv s3 ⟨z, H3, I3, rz, kvs, k, ea, ey, q3, q4⟩ => Calls.spliced_nil ?_))))
  subst ey
  cases l : valV kvs k with
  | some v => exact d_pop I3 ea ry l (.inr ⟨fv, rfl⟩) fun w' s4 I4 rw' => ⟨v, _, I4, rw', q3 v l⟩
  | none => exact d_popD I3 ea ry l fun s4 I4 => ⟨z, H3, I4, rz, q4 l⟩
end

/-! ### dict(d): a copy -/
section
variable {X : Cx} {pins : List (Addr × Obj)} {σ : St} {H : Hp} {s : Shared} {a : Addr} {kvs : List (Key × V)} {A : Around} {E : Value → Shared → Prop}
theorem d_copyOf {Q : Value → Shared → Prop} (I : Inv X pins σ H s) (e : Rd H a (.dK kvs)) (h : ∀ p s', H p = none → Inv X pins σ (upd H p (.dK kvs)) s' → Q (.ref p) s') : wpAny (model X.prog X.w) A (call (.type "dict") [.ref a]) Q E s := by
  obtain ⟨z, hd, vs, rel, dd⟩ := dk_rd I.hok e
  refine kt_call_dict hd dd (by rw [← rel.length]; exact z) fun h' dd' hs => ?_
  refine h _ _ (I.hok.fresh (Nat.le_refl _)) (I.laid (a := s.heap.objs.size) (o := .dK kvs) (t' := s.toks) (fun b q hq => ?_) (Nat.le_refl _) (dk_new z (beq_eq_false_iff_ne.mpr (Ne.symm (Nat.ne_of_lt I.big))) rel dd'))
  exact (hs.2 b (Nat.ne_of_lt (Heap.lt_size hq))).trans (Heap.get?_push_of_some _ hq)
end


section
variable {X : Cx} {pins : List (Addr × Obj)} {σ : St} {H : Hp} {s : Shared} {a : Addr} {y : V} {u : Value} {A : Around} {E : Value → Shared → Prop}
/-- d[y], not there: a KeyError -/
theorem d_missing {Q : Value → Shared → Prop} (hu : A.units + 1 < cLine) (hh : A.handled = none) (I : Inv X pins σ H s) (g : DGet H a y none) (ry : RelV y u)
    (h : ∀ h' e t', Heap.NewExc s.heap h' e "KeyError" → E (.ref e) { s with heap := h', toks := t' }) : wpAny (model X.prog X.w) A (getItem (.ref a) u) Q E s := by
  rcases g with ⟨kvs, k, e, ey, l⟩ | ⟨kvs, k, b, e, ey, eb, l⟩
  · subst ey
    obtain ⟨z, hd, vs, rel, dd⟩ := dk_rd I.hok e
    have hn : valueAt vs k = none := RelO.none_of (by rw [l]; exact rel.val k)
    exact wpAny_getItem_missing_of (kV_is ry) hd hh dd.mapOf hn fun h' ex ne => h h' ex _ ne
  · subst ey
    cases (show u = Value.ref b from ry)
    obtain ⟨z, hd, xs, rel, dd⟩ := dt_rd I.hok e
    have hn : (atKey xs k).map (·.2) = none := RelO.none_of (by rw [l]; exact rel.val k)
    exact wpAny_getItem_missing_heap (tupleKind_room_in1 hu) (key_of I.hok eb) hd hh dd (Option.map_eq_none_iff.mp hn) fun h' ex ne => h h' ex _ ne
end
end L2

namespace Att
open PySem PySem.W PySem.Calls PyProof.Rows

/-! ### the script -/
theorem ints_of_wellAll {P : Params} {h : Heap} : ∀ (ns : List Int) (vs : List Value), WellAll P h vs (ns.map WData.int) → IntsAre vs ns := by
  intro ns
  induction ns with
  | nil =>
    intro vs w
    rw [List.map_nil] at w
    cases w
    exact .nil
  | cons n ns ih =>
    intro vs w
    rw [List.map_cons] at w
    cases w with
    | cons a b =>
      cases a
      exact .cons _ _ (ih _ b)

theorem script_of {l : OpenLaw} {n : Nat} (hn : l.most = some n) {P : Params} {h : Heap} {args : List WData} {vals : List Value}
    (hpre : l.row.toRowW.claim.pre args = true) (hwl : WellAll P h vals args) :
    ∃ a vs ns, vals = [Value.ref a] ∧ args = [WData.list (ns.map WData.int)] ∧ h.get? a = some { cls := .type "list", data := .seq vs.toArray } ∧ IntsAre vs ns ∧ ns.length ≤ n := by
  have hsh : WShape.hasAll [] args [.list .int] = true := (pre_splitW hpre).1
  have hc : l.pre.holds [] { args := args } = true := (pre_splitW hpre).2
  obtain ⟨d, r, rfl, h1, h2⟩ := hasAllW_cons hsh
  obtain rfl := hasAllW_nil h2
  obtain ⟨xs, rfl, h3⟩ := hasW_list h1
  obtain ⟨ns, rfl⟩ := items_int h3
  have hlen : ns.length ≤ n := by
    unfold OpenLaw.pre at hc
    have h4 : (WTm.not (.lt (.lit (.int (n : Int))) (.len (.arg 0)))).holds [] { args := [.list (ns.map .int)] } = true := by
      have h4 := (holds_andW hc).1
      rw [hn] at h4
      exact h4
    have h5 := condW_of h4 (w_not (w_lt w_lit (w_len_list (w_arg rfl))))
    rw [List.length_map] at h5
    refine Nat.le_of_not_lt fun q => ?_
    have q' : (n : Int) < ((ns.length : Nat) : Int) := by omega
    first
      | (rw [decide_eq_true q'] at h5; exact absurd h5 (by decide))
      | (simp at h5; omega)
  cases hwl with
  | cons w1 w2 =>
    cases w2
    cases w1 with
    | list ho hall => exact ⟨_, _, ns, rfl, rfl, ho, ints_of_wellAll ns _ hall, hlen⟩

theorem post_true (l : OpenLaw) (args : List WData) : l.row.toRowW.claim.post args (.bool true) args = true :=
  postW_of (r := l.row.toRowW) (X := (true == true))
    (show WShape.has [] (.bool true) .bool = true by first | rfl | decide | simp [WShape.has, WShape.arms, WShape.armsAll])
    (show (WTm.eq .res (.lit (.bool true))).value [] { args := args, res := some (.bool true), after := args } = some (.bool (true == true)) from w_eq_bool (w_res rfl) w_lit) rfl

/-! ### the attachment: holds_open's last premise (the goal 'hc' behind k_head) from a wpAny of the law's body -/
theorem attach {l : OpenLaw} {n : Nat} {q : Program} {loose : List Str} {XP : (Str → Option Value) → Heap → Prop} {YP : World → Heap → Prop} {d : DefRec} {x : Str}
    (hn : l.most = some n) (hdf : d.params.defaults = [])
    (hbind : ∀ pm cd doc v : Value, bindArgs (docDef d.name d.params d.body d.scope pm cd doc) ⟨[v], []⟩ = pure [(x, v)])
    (hx : d.scope.names.lookup x = some .local ∨ d.scope.names.lookup x = some .cell)
    (hk : d.scope.kind = .function) (hco : d.scope.isCoroutine = false) (hgen : d.scope.isGenerator = false)
    (body : ∀ (w : World) (s₀ s₁ s : Shared) (mg mb : Str → Option Value) (fa : Addr) (o : Obj) (pm cd doc : Value) (a : Addr) (vs : List Value) (ns : List Int),
      Ground q loose [] XP w s₀ mg mb s₁.heap → YP w s₁.heap →
      s₁.heap.get? fa = some o → o.data = .func (docDef d.name d.params d.body d.scope pm cd doc) → s₁.heap.CodeRec cd d.name → mg d.name = some (.ref fa) →
      s₁.heap.get? a = some { cls := .type "list", data := .seq vs.toArray } → IntsAre vs ns → ns.length ≤ n →
      s.gens = #[] → s.os = s₁.os →
      Fr s₁.heap s₁.heap.objs.size s.heap (bindL (envOfC d.name d.scope s₁.heap.objs.size fa cd).kindOf [(x, .ref a)] fun _ => none) →
      Cl s₁.heap.objs.size (cellsFrom (s₁.heap.objs.size + 1) d.scope.names []) s.heap (bindC (envOfC d.name d.scope s₁.heap.objs.size fa cd).kindOf [(x, .ref a)] fun _ => none) →
      wpAny (model l.prog w) (callerA.deeper (envOfC d.name d.scope s₁.heap.objs.size fa cd)) (execs d.body (envOfC d.name d.scope s₁.heap.objs.size fa cd))
        (fun f s' => f = .ret (.bool true) ∧ OldK s₁.heap s'.heap ∧ s'.os = s₁.os ∧ AllBare s'.gens) (fun _ _ => False) s) :
    WalkO q loose XP YP l.row.toRowW d [] (fun f vs => PySem.call f vs) := by
  intro w s₀ s₁ mg mb G Y fa o pm cd doc dV kV ho hd hcd hD hmg hg args vals as hpre hlay hrd hwl hlo
  obtain rfl : dV = .none := Dflts.none hD hdf
  obtain rfl : kV = .none := Dflts.noKw hD
  obtain ⟨a, vs, ns, rfl, rfl, hobj, hints, hlen⟩ := script_of hn hpre hwl
  refine enter_call ?_
  refine call_cells_ret (o := o) (by rw [depth_caller]; decide) ho (fd_plain hd) G.T.nolimit hcd (hbind pm cd doc (.ref a)) (fun y hy => ?_) (fun h₁ tk F X => ?_) hco hgen hk
  · obtain rfl : y = (x, Value.ref a) := List.mem_singleton.mp hy
    rcases hx with e | e
    · exact .inl e
    · exact .inr ⟨e, cellsFrom_some _ _ _ (.inl e)⟩
  · refine wpAny_mono (body w s₀ s₁ { s₁ with heap := h₁, toks := tk } mg mb fa o pm cd doc a vs ns G Y ho (fd_plain hd) hcd hmg hobj hints hlen hg rfl F X) (fun f s' hq => ?_) (fun _ _ hq => hq)
    obtain ⟨rfl, h2, h3, h4⟩ := hq
    exact ⟨.inl ⟨.bool true, .bool true, [], rfl, fun _ => rfl, .bool true, post_true l _, fun _ => ⟨List.Pairwise.nil, fun _ hm => (nomatch hm)⟩⟩, h2, h3, h4⟩

/-- the same from a codeAny of the CALL (for a layer whose function contracts speak of calls) -/
theorem attach_call {l : OpenLaw} {n : Nat} {q : Program} {loose : List Str} {XP : (Str → Option Value) → Heap → Prop} {YP : World → Heap → Prop} {d : DefRec}
    (hn : l.most = some n) (hdf : d.params.defaults = [])
    (call : ∀ (w : World) (s₀ s₁ : Shared) (mg mb : Str → Option Value) (fa : Addr) (o : Obj) (pm cd doc : Value) (a : Addr) (vs : List Value) (ns : List Int),
      Ground q loose [] XP w s₀ mg mb s₁.heap → YP w s₁.heap →
      s₁.heap.get? fa = some o → o.data = .func (docDef d.name d.params d.body d.scope pm cd doc) → s₁.heap.CodeRec cd d.name → mg d.name = some (.ref fa) →
      s₁.heap.get? a = some { cls := .type "list", data := .seq vs.toArray } → IntsAre vs ns → ns.length ≤ n → s₁.gens = #[] →
      codeAny (model l.prog w) callerA (.call (.ref fa) ⟨[.ref a], []⟩) (fun r s' => r = .ok (.ret (.bool true)) ∧ OldK s₁.heap s'.heap ∧ s'.os = s₁.os ∧ AllBare s'.gens) s₁) :
    WalkO q loose XP YP l.row.toRowW d [] (fun f vs => PySem.call f vs) := by
  intro w s₀ s₁ mg mb G Y fa o pm cd doc dV kV ho hd hcd hD hmg hg args vals as hpre hlay hrd hwl hlo
  obtain rfl : dV = .none := Dflts.none hD hdf
  obtain rfl : kV = .none := Dflts.noKw hD
  obtain ⟨a, vs, ns, rfl, rfl, hobj, hints, hlen⟩ := script_of hn hpre hwl
  refine enter_call (codeAny_mono (call w s₀ s₁ mg mb fa o pm cd doc a vs ns G Y ho (fd_plain hd) hcd hmg hobj hints hlen hg) fun r s' hq => ?_)
  obtain ⟨rfl, h2, h3, h4⟩ := hq
  exact ⟨.inl ⟨.bool true, .bool true, [], rfl, fun _ => rfl, .bool true, post_true l _, fun _ => ⟨List.Pairwise.nil, fun _ hm => (nomatch hm)⟩⟩, h2, h3, h4⟩

/-- the same where the top left finished generators (o_head chose holds_openN): nothing may have changed at all and no generator may be left -/
theorem attachN {l : OpenLaw} {n : Nat} {q : Program} {loose : List Str} {XP : (Str → Option Value) → Heap → Prop} {YP : World → Heap → Prop} {d : DefRec} {x : Str}
    (hn : l.most = some n) (hdf : d.params.defaults = [])
    (hbind : ∀ pm cd doc v : Value, bindArgs (docDef d.name d.params d.body d.scope pm cd doc) ⟨[v], []⟩ = pure [(x, v)])
    (hx : d.scope.names.lookup x = some .local ∨ d.scope.names.lookup x = some .cell)
    (hk : d.scope.kind = .function) (hco : d.scope.isCoroutine = false) (hgen : d.scope.isGenerator = false)
    (body : ∀ (w : World) (s₀ s₁ s : Shared) (mg mb : Str → Option Value) (fa : Addr) (o : Obj) (pm cd doc : Value) (a : Addr) (vs : List Value) (ns : List Int),
      Ground q loose [] XP w s₀ mg mb s₁.heap → YP w s₁.heap →
      s₁.heap.get? fa = some o → o.data = .func (docDef d.name d.params d.body d.scope pm cd doc) → s₁.heap.CodeRec cd d.name → mg d.name = some (.ref fa) →
      s₁.heap.get? a = some { cls := .type "list", data := .seq vs.toArray } → IntsAre vs ns → ns.length ≤ n →
      s.gens = #[] → s.os = s₁.os →
      Fr s₁.heap s₁.heap.objs.size s.heap (bindL (envOfC d.name d.scope s₁.heap.objs.size fa cd).kindOf [(x, .ref a)] fun _ => none) →
      Cl s₁.heap.objs.size (cellsFrom (s₁.heap.objs.size + 1) d.scope.names []) s.heap (bindC (envOfC d.name d.scope s₁.heap.objs.size fa cd).kindOf [(x, .ref a)] fun _ => none) →
      wpAny (model l.prog w) (callerA.deeper (envOfC d.name d.scope s₁.heap.objs.size fa cd)) (execs d.body (envOfC d.name d.scope s₁.heap.objs.size fa cd))
        (fun f s' => f = .ret (.bool true) ∧ (∀ b o, s₁.heap.get? b = some o → s'.heap.get? b = some o) ∧ s'.os = s₁.os ∧ s'.gens = #[]) (fun _ _ => False) s) :
    WalkN q loose XP YP l.row.toRowW d [] (fun f vs => PySem.call f vs) := by
  intro w s₀ s₁ mg mb G Y fa o pm cd doc dV kV ho hd hcd hD hmg hg args vals as hpre hlay hrd hwl hlo
  obtain rfl : dV = .none := Dflts.none hD hdf
  obtain rfl : kV = .none := Dflts.noKw hD
  obtain ⟨a, vs, ns, rfl, rfl, hobj, hints, hlen⟩ := script_of hn hpre hwl
  refine enter_callW ?_
  refine call_cells_ret (o := o) (by rw [depth_caller]; decide) ho (fd_plain hd) G.T.nolimit hcd (hbind pm cd doc (.ref a)) (fun y hy => ?_) (fun h₁ tk F X => ?_) hco hgen hk
  · obtain rfl : y = (x, Value.ref a) := List.mem_singleton.mp hy
    rcases hx with e | e
    · exact .inl e
    · exact .inr ⟨e, cellsFrom_some _ _ _ (.inl e)⟩
  · refine wpAny_mono (body w s₀ s₁ { s₁ with heap := h₁, toks := tk } mg mb fa o pm cd doc a vs ns G Y ho (fd_plain hd) hcd hmg hobj hints hlen hg rfl F X) (fun f s' hq => ?_) (fun _ _ hq => hq)
    obtain ⟨rfl, h2, h3, h4⟩ := hq
    exact ⟨.inl ⟨.bool true, .bool true, [], rfl, fun _ => rfl, .bool true, post_true l _, fun _ => ⟨List.Pairwise.nil, fun _ hm => (nomatch hm)⟩⟩, h2, h3, h4⟩

/-! ### rules over ANY heap (no ledger) from facts about the written part K: the library's own take a ledger (News) for what they write -/
section
variable {prog : Program} {w : World} {A : Around} {E : Value → Shared → Prop} {s : Shared} {K : Frag}

/-- a def of the module, or a method (qual 'C.m'), entered: the frame is the next address; cells behind it -/
theorem call_fn {R : Result → Shared → Prop} {name qual : Str} {params : Arguments} {body : List Stmt} {scope : Scope} {dV kV doc pm cdv ct oc : Value} {an od : Option Addr} {osl : Array (Option Value)} {f : Addr} {args : Args} {binds : List (Str × Value)}
    (X : K.In s.heap) (hlim : s.heap.NoLimit) (ho : K.lookup f = some ⟨oc, od, .func (fnOf name qual params body scope dV kV doc pm an cdv ct), osl⟩) (hcd : codeIn K cdv qual = true) (hroom : A.depth < recursionLimit)
    (hbind : BindsTo s (fnOf name qual params body scope dV kV doc pm an cdv ct) args binds)
    (hkind : (binds.all fun y => scope.names.lookup y.1 == some .local || scope.names.lookup y.1 == some .cell) = true)
    (h : ∀ s₁, InCallC s s.heap.objs.size (bindL (envOfC qual scope s.heap.objs.size f cdv).kindOf binds fun _ => none) (cellsFrom (s.heap.objs.size + 1) scope.names [])
        (bindC (envOfC qual scope s.heap.objs.size f cdv).kindOf binds fun _ => none) s₁ →
      wpAny (model prog w) (A.deeper (envOfC qual scope s.heap.objs.size f cdv)) (execs body (envOfC qual scope s.heap.objs.size f cdv))
        (fun fl s' => R (.ok (.ret (match fl with | .ret v => v | _ => .none))) s')
        (fun e s' => wpAny (model prog w) (A.deeper (envOfC qual scope s.heap.objs.size f cdv)) (leaving (envOfC qual scope s.heap.objs.size f cdv) e) (fun _ s'' => R (.error e) s'') (fun e' s'' => R (.error e') s'') s') s₁)
    (hco : scope.isCoroutine = false) (hgen : scope.isGenerator = false) (hk : scope.kind = .function) : codeAny (model prog w) A (.call (.ref f) args) R s := by
  refine codeAny_call_function hroom (X _ _ ho) rfl hco hgen rfl (codeRec_of X hcd) (hbind _ _ _ _ ?_)
  refine wpAny_newFunctionEnv_cells hk (kindsX hkind _) fun env he s₁ x => ?_
  subst he
  exact ⟨hlim.keeps x.toInCall.keep, codeAny_func (h s₁ x)⟩

/-- C(..): dict at size, instance at size + 1, then __init__ -/
theorem make_obj {R : Result → Shared → Prop} {C fI : Addr} {rest : List Value} {kw : List (Str × Value)}
    (X : K.In s.heap) (hm : makesIn K C = true) (hi : findIn K (.ref C) "__init__" = some (some (.ref fI))) (hf : isFn K (.ref fI) = true)
    (h : codeAny (model prog w) (A.under (.builtin "type.__call__" ⟨.ref C :: rest, kw⟩)) (.call (.ref fI) ⟨.ref (s.heap.objs.size + 1) :: rest, kw⟩) (InitBack (s.heap.objs.size + 1) R)
      { s with heap := (s.heap.push emptyDict).push (instObj C s.heap.objs.size) }) : codeAny (model prog w) A (.call (.ref C) ⟨rest, kw⟩) R s := by
  obtain ⟨hh, g, d, t, os⟩ := s
  exact make_core (makes_of X hm) (looks_findIn X hi) (fun self => bind_fn X self (beq_iff_eq.mp hf)) (.inl rfl) h

/-- x.name where the instance's dict holds the name and the class does not -/
theorem get_field {x C : Addr} {ox : Obj} {es : List DictEntry} {n : Nat} {name : Str} {expr : Bool} {v : Value} {Q : Value → Shared → Prop}
    (X : K.In s.heap) (I : PySem.W.InstAt s.heap x ox C (some (dictOf es n))) (hg : plainGet K C name = true) (hh : hasDictIn K C = true) (ha : findIn K (.ref C) name = some none)
    (hl : getL name es = some (some v)) (hv : handedIn v = true) (h : Q v { s with toks := s.toks + 1 }) : wpAny (model prog w) A (getAttr (.ref x) name expr) Q E s :=
  get_value X I (plainGet_of hg).1 (findObj_own hh ha rfl hl) hv h

/-- x.m(..): the method found in the class -/
theorem get_method {x C f : Addr} {ox : Obj} {es : List DictEntry} {n : Nat} {name : Str} {pl : Sem Bool} {Q : Value × List Value → Shared → Prop}
    (X : K.In s.heap) (I : PySem.W.InstAt s.heap x ox C (some (dictOf es n))) (hg : plainGet K C name = true) (hf : findIn K (.ref C) name = some (some (.ref f))) (ht : isFn K (.ref f) = true)
    (hl : getL name es = some none) (h : Q (.ref f, [.ref x]) s) : wpAny (model prog w) A (getMethod (.ref x) name pl) Q E s :=
  method_fn X I (plainGet_of hg).1 (plainGet_of hg).2 hf (beq_iff_eq.mp ht) (by show (lookIn name (dictOf es n)).map _ = _; rw [lookIn_dict, hl]; rfl) h

/-! the whole heap as the ledger: makes every rule that writes through a ledger a rule over any heap -/
def noObjs (h : Heap) : Heap := { h with objs := #[] }
theorem noObjs_get (h : Heap) (b : Addr) : (noObjs h).get? b = none := by
  cases e : (noObjs h).get? b with
  | none => rfl
  | some o => exact absurd (Heap.lt_size e) (Nat.not_lt_zero _)
def ledger (h : Heap) (L d : Addr) : List (Addr × Obj) := (List.range h.objs.size).filterMap fun a => if a = L ∨ a = d then none else (h.get? a).map fun o => (a, o)
theorem mem_ledger {h : Heap} {L d a : Addr} {o : Obj} : (a, o) ∈ ledger h L d ↔ a ≠ L ∧ a ≠ d ∧ h.get? a = some o := by
  unfold ledger
  rw [List.mem_filterMap]
  constructor
  · rintro ⟨b, _, e⟩
    split at e
    · cases e
    · rename_i hb
      obtain ⟨o', ho, e'⟩ := Option.map_eq_some_iff.mp e
      cases e'
      exact ⟨fun q => hb (.inl q), fun q => hb (.inr q), ho⟩
  · rintro ⟨n1, n2, ho⟩
    refine ⟨a, List.mem_range.mpr (Heap.lt_size ho), ?_⟩
    rw [if_neg (show ¬ (a = L ∨ a = d) from fun q => q.elim n1 n2), ho] <;> rfl
theorem news_ledger {h : Heap} {L d : Addr} {od : Obj} (hne : d ≠ L) (ho : h.get? d = some od) : News (noObjs h) L h ([] ++ (d, od) :: ledger h L d) := by
  rintro ⟨a, o⟩ hp
  rcases List.mem_cons.mp hp with e | hp
  · cases e
    exact ⟨ho, hne, noObjs_get _ _⟩
  · obtain ⟨n1, n2, e⟩ := mem_ledger.mp hp
    exact ⟨e, n1, noObjs_get _ _⟩
theorem fr_all {h : Heap} {L : Addr} {m : Str → Option Value} (n : h.Ns L m) : Fr (noObjs h) L h m :=
  ⟨n, fun b o e => (by rw [noObjs_get] at e; cases e), Nat.zero_le _⟩
/-- Upd of the head entry (for append_K, setItem_K ..) -/
theorem upd_ledger {h : Heap} {L d : Addr} {o o' : Obj} : Upd d o o' ((d, o) :: ledger h L d) ((d, o') :: ledger h L d) :=
  .head fun ⟨_, _⟩ hp => (mem_ledger.mp hp).2.1

/-- x.name = v over any heap: L is any namespace of the heap (the frame's, say): its map stays, its object is not told; all else but the dict stays -/
theorem set_field {x C dx L : Addr} {ox : Obj} {m : Str → Option Value} {es es' : List DictEntry} {n n' : Nat} {name : Str} {v : Value} {Q : Unit → Shared → Prop}
    (X : K.In s.heap) (I : PySem.W.InstAt s.heap x ox C (some (dictOf es n))) (hd : ox.dict = some dx) (hL : s.heap.Ns L m) (hne : dx ≠ L)
    (hs : findIn K (.ref C) "__setattr__" = some (some (.builtin "object.__setattr__"))) (hp : plainOver K C = true) (ht : takerIn K C name = some none) (hh : hasDictIn K C = true) (hl : (getL name es).isSome = true)
    (e : (putL name (PyData.keyHash w.params name) (.str name (s.toks + 1)) v es, putN name es n) = (es', n')) (hz : es'.length ≤ 1000)
    (h : ∀ h' : Heap, h'.Ns L m → h'.get? dx = some (dictOf es' n') → (∀ b o, b ≠ dx → b ≠ L → s.heap.get? b = some o → h'.get? b = some o) → Q () { s with heap := h', toks := s.toks + 2 }) :
    wpAny (model prog w) A (setAttr (.ref x) name v) Q E s := by
  obtain ⟨e1, e2⟩ := Prod.mk.inj e
  have hdx : s.heap.get? dx = some (dictOf es n) := by
    have := I.dict
    rw [hd] at this
    exact this
  refine set_plain X I hs (osa_dict (s := { s with toks := s.toks + 1 }) (h₀ := noObjs s.heap) (L := L) (m := m) (od := dictOf es n) (od' := dictOf es' n') (es := es') (n := n') (pre := []) (post := ledger s.heap L dx)
    (fr_all hL) (news_ledger hne hdx) X I hd hp ht hh hl (fun _ q => nomatch q) (fun ⟨_, _⟩ q => (mem_ledger.mp q).2.1) (by rw [putName_dict, e1, e2]) rfl hz fun h' F' N' => ?_)
  exact h h' F'.ns (N'.get (List.Mem.head _)) fun b o n1 n2 ho => N'.get (List.Mem.tail _ (mem_ledger.mpr ⟨n2, n1, ho⟩))
end
end Att

namespace L2
open PySem PySem.Spec PyProof.Rows

theorem vals_ints : ∀ {vs : List Value} {ns : List Int}, IntsAre vs ns → Vals (ns.map V.int) vs
  | _, _, .nil => .nil
  | _, _, .cons n t h => .cons ⟨t, rfl⟩ (vals_ints h)

/-- nothing is tracked but the script, known to the object (or it is an object of the module) -/
def Only (H : Hp) : Prop := ∀ b, H b = none ∨ ∃ o xs, H b = some (.frz o (.lst xs))

/-- THE HEAD: the law's promise, at the heap behind the top. F, the promise of the law's def, may use that base is part of the heap (so K.In base, base.Ns mainGlobals mg stand in Mod) -/
theorem law_call {P : Program} {w : World} {K : PySem.W.Frag} {mg mb : Str → Option Value} {CX : CXT} {k : Nat} {fa a : Addr} {fd : FuncData} {x : Str} {sp : Sp} {s₁ : Shared} {vs : List Value} {ns : List Int}
    (KX : K.In s₁.heap) (hns : s₁.heap.Ns mainGlobals mg) (hb : s₁.heap.Ns builtinsNs mb) (hbb : ∀ x : Str, x ≠ "__name__" → mb x = bootBuiltins x) (hlim : s₁.heap.NoLimit) (hg : s₁.gens = #[])
    (ha : s₁.heap.get? a = some { cls := .type "list", data := .seq vs.toArray }) (hi : IntsAre vs ns) (hl : ns.length ≤ sizeLine) (hr : Room k callerA)
    (F : ∀ base : Heap, K.In base → base.Ns mainGlobals mg → FnOk P w K mg base CX k fa fd [x] sp) (hbind : ∀ (s : Shared) (u : Value), BindsTo s fd ⟨[u], []⟩ [(x, u)])
    (hsp : ∀ H : Hp, Only H → SqL K H a (ns.map V.int) → sp [.ref a] H (fun v _ => v = .bl true) fun _ _ _ => False)
    (hCX : ∀ H e s', CX [] H s₁ (fun _ _ _ => False) e s' → False) :
    codeAny (model P w) callerA (.call (.ref fa) ⟨[.ref a], []⟩) (fun r s' => r = .ok (.ret (.bool true)) ∧ OldK s₁.heap s'.heap ∧ s'.os = s₁.os ∧ AllBare s'.gens) s₁ := by
  have rv := vals_ints hi
  have lenV := hi.length
  -- from an abstract heap in which nothing but the script may be tracked
  have core : ∀ H : Hp, Only H → SqL K H a (ns.map V.int) → HOk P w H s₁.heap → (∀ b, H b ≠ none → b = a) → (H a ≠ none → K.lookup a = none) →
      codeAny (model P w) callerA (.call (.ref fa) ⟨[.ref a], []⟩) (fun r s' => r = .ok (.ret (.bool true)) ∧ OldK s₁.heap s'.heap ∧ s'.os = s₁.os ∧ AllBare s'.gens) s₁ := by
    intro H hO hS hok hA hK
    have base_of : ∀ {b : Addr} {o : Obj}, s₁.heap.get? b = some o → H b = none → (hidT s₁.heap H).get? b = some o := fun e n => hidT_get e n
    have noA : ∀ {b : Addr} {o : Obj} {es : Array DictEntry} {ep : Nat}, s₁.heap.get? b = some o → o.data = .dict es ep → H b = none := fun {b o es ep} e d => by
      cases q : H b with
      | none => rfl
      | some u =>
        have e' : b = a := hA b (by rw [q]; simp)
        subst e'
        rw [ha] at e; cases e
        have d' : Data.seq vs.toArray _ = Data.dict es ep := d
        cases d'
    have nsK : ∀ {b : Addr} {m : Str → Option Value}, s₁.heap.Ns b m → (hidT s₁.heap H).Ns b m := fun {b m} ⟨o, es, ep, e, d, r⟩ => ⟨o, es, ep, base_of e (noA e d), d, r⟩
    have hKb : K.In (hidT s₁.heap H) := fun b o e => base_of (KX b o e) (by
      cases q : H b with
      | none => rfl
      | some u =>
        have e' : b = a := hA b (by rw [q]; simp)
        subst e'
        rw [hK (by rw [q]; simp)] at e; cases e)
    have hM : Mod K mg (hidT s₁.heap H) := ⟨hKb, nsK hns, ⟨mb, nsK hb, hbb⟩, let ⟨mc, h1, h2⟩ := hlim; ⟨mc, nsK h1, h2⟩⟩
    have e0 : Env0 P w K mg (hidT s₁.heap H) callerA [] s₁ H := ⟨rfl, hM, fun b o e => of_hidT e, Nat.le_of_eq (hidT_size _ _), trivial, fun b hb => absurd (show b ∈ ([] : List Addr) from hb) (by simp), hok, .of_eq hg⟩
    refine codeAny_mono ((F _ hKb (nsK hns)).run callerA [] s₁ H ⟨[.ref a], []⟩ [.ref a] [.ref a] _ _ hr e0 (hbind s₁ (.ref a)) (.cons rfl .nil) (hsp H hO hS)) fun r s' h => ?_
    cases r with
    | error e => exact (hCX H e s' h).elim
    | ok fl =>
      cases fl with
      | next => exact False.elim h
      | brk => exact False.elim h
      | cont => exact False.elim h
      | ret u =>
        obtain ⟨v, H', os, bare, un, hok', r', q⟩ := h
        have q' : v = .bl true := q
        subst q'
        obtain rfl : u = Value.bool true := r'
        refine ⟨rfl, OldK.of_keep fun b o e => ?_, os, bare⟩
        cases q : H b with
        | none => exact un.keep b o e q (by intro z; exact absurd (show b ∈ ([] : List Addr) from z) (by simp)) (by simp)
        | some u =>
          rcases hO b with z | ⟨ob, xs, z⟩
          · rw [q] at z; cases z
          · have z2 := un.frzs b ob _ z
            obtain ⟨e1, _⟩ := hok b _ z
            obtain ⟨e2, _⟩ := hok' b _ z2
            rw [e] at e1; cases e1
            exact e2
  cases hk : K.lookup a with
  | some o =>
    -- the script is one of the module's own objects
    have e := KX a o hk
    rw [ha] at e
    cases e
    refine core (fun _ => none) (fun _ => .inl rfl) (.inr ⟨_, vs.toArray, _, hk, rfl, rfl, rfl, by rw [List.size_toArray, lenV]; exact hl, by simpa using rv⟩) (fun b u z => by have z' : (none : Option HO) = some u := z; cases z') (fun b z => absurd rfl z) fun z => absurd rfl z
  | none =>
    refine core (fun b => if b = a then some (.frz { cls := .type "list", data := .seq vs.toArray } (.lst (ns.map V.int))) else none) (fun b => ?_) (.inl (.inr ⟨{ cls := .type "list", data := .seq vs.toArray }, if_pos rfl⟩)) (fun b u z => ?_) (fun b z => ?_) fun _ => hk
    · by_cases hb : b = a
      · exact .inr ⟨_, _, if_pos hb⟩
      · exact .inl (if_neg hb)
    · by_cases hb : b = a
      · have z' := (if_pos hb).symm.trans z
        cases z'
        subst hb
        exact ⟨ha, by rw [List.length_map]; exact hl, vs, _, rv, ha⟩
      · have z' := (if_neg hb).symm.trans z
        cases z'
    · by_cases hb : b = a
      · exact hb
      · exact absurd (if_neg hb) z
end L2

namespace L2
open PySem PySem.Spec PyProof.Rows

abbrev KOf {K : PySem.W.Frag} {h : Heap} (_ : K.In h) : PySem.W.Frag := K

/-- the goal that k_head leaves (case hc), from the law's promise. F gives the function object fd (K's own) once, then the promise over every base -/
theorem walk_of {l : PySem.W.OpenLaw} {n k : Nat} {q : Program} {loose : List Str} {XP : (Str → Option Value) → Heap → Prop} {YP : World → Heap → Prop} {d : DefRec} {K : Params → PySem.W.Frag} {CX : World → CXT} {sp : World → Sp} {x : Str}
    (hn : l.most = some n) (hn2 : n ≤ sizeLine) (hdf : d.params.defaults = []) (hr : Room k callerA)
    (hY : ∀ (w : World) (h : Heap), YP w h → (K w.params).In h)
    (F : ∀ (w : World) (mg : Str → Option Value) (fa : Addr) (h : Heap), (K w.params).In h → h.Ns mainGlobals mg → mg d.name = some (.ref fa) →
      ∃ fd : FuncData, (∀ (s : Shared) (u : Value), BindsTo s fd ⟨[u], []⟩ [(x, u)]) ∧
        ∀ base : Heap, (K w.params).In base → base.Ns mainGlobals mg → FnOk l.prog w (K w.params) mg base (CX w) k fa fd [x] (sp w))
    (hsp : ∀ (w : World) (H : Hp) (a : Addr) (ns : List Int), ns.length ≤ n → Only H → SqL (K w.params) H a (ns.map V.int) → sp w [.ref a] H (fun v _ => v = .bl true) fun _ _ _ => False)
    (hCX : ∀ (w : World) (H : Hp) (s : Shared) (e : Value) (s' : Shared), CX w [] H s (fun _ _ _ => False) e s' → False) :
    PySem.W.WalkO q loose XP YP l.row.toRowW d [] (fun f vs => PySem.call f vs) := by
  refine Att.attach_call hn hdf fun w s₀ s₁ mg mb fa o pm cd doc a vs ns G Y ho hd hcd hmg hobj hints hlen hg => ?_
  have KX := hY w _ Y
  obtain ⟨fd, hb, hF⟩ := F w mg fa _ KX G.T.g hmg
  exact law_call KX G.T.g G.T.b G.T.builtins G.T.nolimit hg hobj hints (Nat.le_trans hlen hn2) hr hF hb (fun H hO hS => hsp w H a ns hlen hO hS) fun H e s' => hCX w H s₁ e s'
/-- the same where the promise hangs on the written part alone: (sp := My.sp_law), no hole under a binder -/
theorem walk_ofK {l : PySem.W.OpenLaw} {n k : Nat} {q : Program} {loose : List Str} {XP : (Str → Option Value) → Heap → Prop} {YP : World → Heap → Prop} {d : DefRec} {K : Params → PySem.W.Frag} {CX : CXT} {sp : PySem.W.Frag → Sp} {x : Str}
    (hn : l.most = some n) (hn2 : n ≤ sizeLine) (hdf : d.params.defaults = []) (hr : Room k callerA)
    (hY : ∀ (w : World) (h : Heap), YP w h → (K w.params).In h)
    (F : ∀ (w : World) (mg : Str → Option Value) (fa : Addr) (h : Heap), (K w.params).In h → h.Ns mainGlobals mg → mg d.name = some (.ref fa) →
      ∃ fd : FuncData, (∀ (s : Shared) (u : Value), BindsTo s fd ⟨[u], []⟩ [(x, u)]) ∧
        ∀ base : Heap, (K w.params).In base → base.Ns mainGlobals mg → FnOk l.prog w (K w.params) mg base CX k fa fd [x] (sp (K w.params)))
    (hsp : ∀ (K : PySem.W.Frag) (H : Hp) (a : Addr) (ns : List Int), ns.length ≤ n → Only H → SqL K H a (ns.map V.int) → sp K [.ref a] H (fun v _ => v = .bl true) fun _ _ _ => False)
    (hCX : ∀ (H : Hp) (s : Shared) (e : Value) (s' : Shared), CX [] H s (fun _ _ _ => False) e s' → False) :
    PySem.W.WalkO q loose XP YP l.row.toRowW d [] (fun f vs => PySem.call f vs) :=
  walk_of (K := K) (CX := fun _ => CX) (sp := fun w => sp (K w.params)) hn hn2 hdf hr hY F (fun w H a ns h1 h2 h3 => hsp (K w.params) H a ns h1 h2 h3) fun _ H s e s' => hCX H s e s'
end L2

/- THE LAST THEOREM (shape; LID, My.* are yours):
   My.Adr: a structure of the addresses that your layer names (classes, functions); My.Txt K t: a structure (Prop) of the equations over K;
   My.txt_mk : {K} {implicit addresses ..} (e1 : nsIn K mainGlobals "law" = some (some (.ref f))) (e2 : K.lookup f = some ⟨oc, od, .func (fnOf "law" "law" params body scope dV kV doc pm an cdv ct), sl⟩) (e3 : codeIn K cdv "law" = true) .. : ∃ t, My.Txt K t

set_option maxRecDepth 100000 in
set_option maxHeartbeats 0 in
theorem PySem.Challenge.cw_LID_holds : PySem.Challenge.rw_LID.Holds := by
  w_on; o_law; k_head; (case hw => w_witness2)
  k_fill
  refine L2.walk_of (l := PySem.Challenge.rw_LID) (n := 63) (k := 40) (x := "script") (CX := fun w => ..) (sp := fun _ => My.sp_law) rfl (by decide) rfl ⟨rfl, by decide, by decide⟩ (fun w h Y => PySem.W.kIn_of Y) ?F ?S ?C
  case F =>
    intro w mg fa h KX G hmg
    have T : ∃ t, My.Txt (L2.KOf KX) t := by
      dsimp only [L2.KOf]                          -- K must stand as «<heap const> w.params» for k_is
      refine' My.txt_mk ?e1 ?e2 ?e3 ..
      (case e1 => PySem.W.k_is)                    -- in the order: a name -> its address -> its object -> its parts
      (case e2 => PySem.W.k_is)
      ..
    obtain ⟨t, T⟩ := T
    have e0 := hmg.symm.trans (PySem.W.mg_of KX G T.law)
    cases e0                                       -- fa is the law's own address
    exact ⟨_, fun s u => .of_eq rfl, fun base kb nb => My.law_fn T kb nb⟩     -- if «.of_eq rfl» comes too early: refine' ⟨_, ?b, fun base kb nb => My.law_fn T kb nb⟩; exact fun s u => .of_eq rfl
  case S => exact fun w H a ns hl hO hS => ..
  case C => exact ..
(the tactic k_is has no namespace: write k_is) -/

/-! SHORT WORDS over the layer: a def of the text, its body, what a loop and a test want. -/
namespace L2
open PySem PySem.Spec PyProof.Rows

/-! ### the text by places -/
/-- the j-th statement of a class's body -/
def inClass (s : Stmt) (j : Nat) : Stmt := match s with
  | .ClassDef _ _ _ body _ _ _ _ _ _ _ => body.getD j (.Pass ⟨0, 0, 0, 0⟩)
  | _ => .Pass ⟨0, 0, 0, 0⟩
def defArgs (s : Stmt) : Arguments := match s with
  | .FunctionDef _ a _ _ _ _ _ _ _ _ => a
  | _ => { posonlyargs := [], args := [], vararg := none, kwonlyargs := [], kw_defaults := [], kwarg := none, defaults := [] }
def defBody (s : Stmt) : List Stmt := match s with
  | .FunctionDef _ _ b _ _ _ _ _ _ _ => b
  | _ => []
def defScope (s : Stmt) : Scope := match s with
  | .FunctionDef _ _ _ _ _ _ sc _ _ _ => sc
  | _ => { kind := .function, names := [], isGenerator := false, isCoroutine := false }

/-! ### no exception leaves a def -/
abbrev CX0 : CXT := fun _ _ _ _ _ _ => False
abbrev E0 : XK := fun _ _ _ => False
theorem pass0 {X : Cx} : Passes CX0 X E0 := fun _ _ _ _ _ _ _ h => h.elim

/-! ### a def (or method) of the text as it stands behind the top -/
structure Fun (K : PySem.W.Frag) (x qual : Str) (st : Stmt) (f : Addr) (fd : FuncData) : Prop where
  ex : ∃ (oc : Value) (od : Option Addr) (kV doc pm : Value) (an : Option Addr) (cdv ct : Value) (osl : Array (Option Value)),
    fd = PySem.W.fnOf x qual (defArgs st) (defBody st) (defScope st) .none kV doc pm an cdv ct ∧ K.lookup f = some ⟨oc, od, .func fd, osl⟩ ∧ PySem.W.codeIn K cdv qual = true
  kp : PySem.W.keepIn K (.ref f) = true
section
variable {P : Program} {w : World} {K : PySem.W.Frag} {mg : Str → Option Value} {base : Heap}
/-- THE RULE for a def: its body as a term of rules, and the reading of that term -/
theorem Fun.ok {x qual : Str} {st : Stmt} {f : Addr} {fd : FuncData} {N ps : List Str} {k : Nat} {sp : Sp} (F : Fun K x qual st f fd) (S : FnScope N ps (defScope st)) (len : ∀ vs H Q E, sp vs H Q E → vs.length = ps.length)
    (hbody : ∀ (cdv : Value) (A : Around) (outer : List Env) (s : Shared) (H : Hp) (vs : List V) (Q : VK) (E : XK), Room k (A.deeper (envOfC qual (defScope st) s.heap.objs.size f cdv)) → sp vs H Q E →
      ∃ t, PSs (cxOf CX0 P w K mg base N qual (defScope st) f cdv A outer s H E).nox (defBody st) t ∧ t { nx := fun _ H' => Q .non H', rt := Q } (start N vs) H) : FnOk P w K mg base CX0 (k + 1) f fd ps sp := by
  obtain ⟨oc, od, kV, doc, pm, an, cdv, ct, osl, rfl, lk, hcd⟩ := F.ex
  refine fn_of lk hcd S len fun A outer s H vs Q E hr hsp => ?_
  obtain ⟨t, h, q⟩ := hbody cdv A outer s H vs Q E hr hsp
  exact ⟨t, h.nox, q⟩
/-- how its arguments bind (no defaults): h is «fun _ _ _ _ _ _ us hl => match us, hl with | [_, _], _ => rfl», one _ a parameter -/
theorem Fun.binds {x qual : Str} {st : Stmt} {f : Addr} {fd : FuncData} {ps : List Str} (F : Fun K x qual st f fd)
    (h : ∀ (kV doc pm : Value) (an : Option Addr) (cdv ct : Value) (us : List Value), us.length = ps.length → bindArgs (PySem.W.fnOf x qual (defArgs st) (defBody st) (defScope st) .none kV doc pm an cdv ct) ⟨us, []⟩ = pure (ps.zip us)) : Binds K fd ps [] := by
  obtain ⟨oc, od, kV, doc, pm, an, cdv, ct, osl, rfl, lk, hcd⟩ := F.ex
  exact .all (h kV doc pm an cdv ct)
theorem fun_mk {x qual : Str} {st : Stmt} {f : Addr} {oc : Value} {od an : Option Addr} {osl : Array (Option Value)} {kV doc pm cdv ct : Value} (l : K.lookup f = some ⟨oc, od, .func (PySem.W.fnOf x qual (defArgs st) (defBody st) (defScope st) .none kV doc pm an cdv ct), osl⟩)
    (c : PySem.W.codeIn K cdv qual = true) (k : PySem.W.keepIn K (.ref f) = true) : Fun K x qual st f (PySem.W.fnOf x qual (defArgs st) (defBody st) (defScope st) .none kV doc pm an cdv ct) := ⟨⟨oc, od, kV, doc, pm, an, cdv, ct, osl, rfl, l, c⟩, k⟩
end
theorem hu_of {A : Around} {k : Nat} (hr : Room k A) : A.units + 1 < cLine := Nat.lt_of_le_of_lt (Nat.add_le_add_left (by decide : 1 ≤ 64) _) hr.units
theorem small1000 {n : Nat} (h : n ≤ 1000) : n < sizeLine := Nat.lt_of_le_of_lt h (by decide)

/-! ### expressions in short: the name that stands in the i-th slot -/
section
variable {X : Cx}
theorem pv (i : Nat) {x : Str} {pos : Pos} (hN : X.N[i]? = some x := by rfl) (hv : Vis X.env.scope x := by first | exact Or.inl rfl | exact Or.inr (Or.inl rfl) | exact Or.inr (Or.inr rfl)) (hd : (x == ("__debug__" : Str)) = false := by decide)
    (hcd : (x == ("__classdict__" : Str)) = false := by decide) : PE X (.Name x pos) (tVar i) := pe_var hN hv hd hcd
end

/-! ### tests -/
theorem iteF {A B : Prop} (h : B) : if false = true then A else B := by
  rw [if_neg Bool.false_ne_true]
  exact h
theorem iteT {A B : Prop} (h : A) : if true = true then A else B := by
  rw [if_pos rfl]
  exact h
theorem ite2 {c A B : Prop} [Decidable c] (h1 : c → A) (h2 : ¬ c → B) : if c then A else B := by
  by_cases h : c
  · rw [if_pos h]
    exact h1 h
  · rw [if_neg h]
    exact h2 h
theorem iteNS {c A B : Prop} [Decidable c] (hc : c) (h : B) : if (!decide c) = true then A else B := by
  rw [decide_eq_true hc]
  exact iteF h

/-! ### heaps -/
/-- all that was tracked is as it was -/
def Same (H H' : Hp) : Prop := ∀ b o, H b = some o → H' b = some o
theorem Same.refl (H : Hp) : Same H H := fun _ _ h => h
theorem Same.trans {H H1 H2 : Hp} (a : Same H H1) (b : Same H1 H2) : Same H H2 := fun c o h => b c o (a c o h)
theorem Same.free {H H' : Hp} (e : Same H H') {l : Addr} (h : H' l = Option.none) : H l = Option.none := by
  cases q : H l with
  | none => rfl
  | some o =>
    rw [e l o q] at h
    cases h
theorem Same.seq {K : PySem.W.Frag} {H H' : Hp} {a : Addr} {xs : List V} (e : Same H H') (h : SqL K H a xs) : SqL K H' a xs := by
  rcases h with (h | ⟨o, h⟩) | h
  · exact .inl (.inl (e _ _ h))
  · exact .inl (.inr ⟨o, e _ _ h⟩)
  · exact .inr h

end L2

namespace L2
open PySem PySem.Spec PyProof.Rows
section
variable {X : Cx}
/-- len of a dict -/
theorem call_lenD : CallR X (.builtin "len") (fun xs H Q => ∃ a kvs, xs = [V.ref a] ∧ H a = some (.dK kvs) ∧ Q (.int kvs.length) H) := by
  intro pins s σ H xs us Q I r h
  obtain ⟨a, kvs, rfl, ha, q⟩ := h
  obtain ⟨u, rfl, ru⟩ := vals1 r
  cases ru
  exact d_len I (.inl ha) fun t s' I' => ⟨.int kvs.length, H, I', ⟨t, rfl⟩, q⟩
end
/-! ### a dict's pairs: keys that differ -/
section
variable {κ : Type} [DecidableEq κ]
theorem valV_not {kvs : List (κ × V)} {k : κ} (h : valV kvs k = none) : ¬ k ∈ kvs.map (·.1) := by
  intro m
  obtain ⟨p, hp, e⟩ := List.mem_map.mp m
  have q : (kvs.any fun kv => decide (kv.1 = k)) = true := List.any_eq_true.mpr ⟨p, hp, decide_eq_true e⟩
  rw [valV_any, h] at q
  exact absurd q (by simp)
theorem valV_in {kvs : List (κ × V)} {k : κ} {v : V} (h : valV kvs k = some v) : k ∈ kvs.map (·.1) := by
  have q : (kvs.any fun kv => decide (kv.1 = k)) = true := by
    rw [valV_any, h]
    all_goals rfl
  obtain ⟨p, hp, e⟩ := List.any_eq_true.mp q
  exact List.mem_map.mpr ⟨p, hp, of_decide_eq_true e⟩
theorem nd_snoc : ∀ {l : List κ} {k : κ}, l.Nodup → ¬ k ∈ l → (l ++ [k]).Nodup
  | [], k, _, _ => by simp
  | a :: r, k, h, hk => by
    obtain ⟨h1, h2⟩ := List.nodup_cons.mp h
    show (a :: (r ++ [k])).Nodup
    refine List.nodup_cons.mpr ⟨fun m => ?_, nd_snoc h2 fun m => hk (List.mem_cons.mpr (Or.inr m))⟩
    rcases List.mem_append.mp m with q | q
    · exact h1 q
    · exact hk (List.mem_cons.mpr (Or.inl (List.mem_singleton.mp q).symm))
theorem nd_putK {kvs : List (κ × V)} {k : κ} (v : V) (hn : (kvs.map (·.1)).Nodup) (h : valV kvs k = none) : ((putK kvs k v).map (·.1)).Nodup := by
  rw [putK_new v h, List.map_append]
  exact nd_snoc hn (valV_not h)
theorem dropK_pos {p : κ × V} {r : List (κ × V)} {k : κ} (e : p.1 = k) : dropK (p :: r) k = dropK r k := by
  unfold dropK
  rw [List.filter_cons, if_neg (by simp [e])]
theorem dropK_neg {p : κ × V} {r : List (κ × V)} {k : κ} (e : ¬ p.1 = k) : dropK (p :: r) k = p :: dropK r k := by
  unfold dropK
  rw [List.filter_cons, if_pos (by simp [e])]
theorem dropK_no : ∀ {kvs : List (κ × V)} {k : κ}, ¬ k ∈ kvs.map (·.1) → dropK kvs k = kvs
  | [], _, _ => rfl
  | p :: r, k, h => by
    have h' : ¬ k ∈ r.map (·.1) := fun m => by
      obtain ⟨q, hq, e⟩ := List.mem_map.mp m
      exact h (List.mem_map.mpr ⟨q, List.mem_cons.mpr (Or.inr hq), e⟩)
    rw [dropK_neg fun e => h (List.mem_map.mpr ⟨p, List.mem_cons.mpr (Or.inl rfl), e⟩), dropK_no h']
theorem dropK_mem {kvs : List (κ × V)} {k : κ} {p : κ × V} (h : p ∈ dropK kvs k) : p ∈ kvs := (List.mem_filter.mp h).1
theorem nd_dropK : ∀ {kvs : List (κ × V)} {k : κ}, (kvs.map (·.1)).Nodup → ((dropK kvs k).map (·.1)).Nodup
  | [], _, _ => List.nodup_nil
  | p :: r, k, h => by
    have h : (p.1 :: r.map (·.1)).Nodup := h
    obtain ⟨h1, h2⟩ := List.nodup_cons.mp h
    by_cases e : p.1 = k
    · rw [dropK_pos e]
      exact nd_dropK h2
    · rw [dropK_neg e]
      show (p.1 :: (dropK r k).map (·.1)).Nodup
      refine List.nodup_cons.mpr ⟨fun m => h1 ?_, nd_dropK h2⟩
      obtain ⟨q, hq, eq⟩ := List.mem_map.mp m
      exact List.mem_map.mpr ⟨q, dropK_mem hq, eq⟩
theorem dropK_len : ∀ {kvs : List (κ × V)} {k : κ}, (kvs.map (·.1)).Nodup → k ∈ kvs.map (·.1) → (dropK kvs k).length + 1 = kvs.length
  | [], _, _, m => by simp at m
  | p :: r, k, h, m => by
    have h : (p.1 :: r.map (·.1)).Nodup := h
    have m : k = p.1 ∨ k ∈ r.map (·.1) := List.mem_cons.mp m
    obtain ⟨h1, h2⟩ := List.nodup_cons.mp h
    by_cases e : p.1 = k
    · subst e
      rw [dropK_pos rfl, dropK_no h1]
      all_goals rfl
    · have m' : k ∈ r.map (·.1) := m.resolve_left fun z => e z.symm
      have q := dropK_len h2 m'
      rw [dropK_neg e, List.length_cons, List.length_cons]
      omega
end
end L2

set_option Elab.async false
set_option linter.all false
set_option maxRecDepth 100000
/-! Comprehensions over the hand layer: [elt for target in iter if test], also with names of the def around it. -/
namespace L2
open PySem PySem.Spec PyProof.Rows

/-- the context of a comprehension's block; no exception leaves it -/
def ccx (X : Cx) (N : List Str) (scope : Scope) (cl : List (Str × Addr)) (C : Addr) (fp : List Addr) (s : Shared) (H : Hp) : Cx where
  prog := X.prog
  w := X.w
  K := X.K
  mg := X.mg
  base := X.base
  A := X.A
  N := N
  s₀ := s
  H₀ := H
  env := compEnvC scope cl C X.env
  outer := X.stack
  stack := X.stack
  ex := fp
  calm := X.calm
  fn := fun _ => false
  pn := []
  xe := fun _ _ => False

/-- the names of the def around that the block reads: their slot there, and themselves -/
inductive FV (X : Cx) (scope : Scope) : List (Nat × Str) → Prop
  | nil : FV X scope []
  | cons {j : Nat} {x : Str} {r : List (Nat × Str)} : X.N[j]? = some x → (X.env.scope.names.lookup x = some .cell ∨ X.env.scope.names.lookup x = some .free) → scope.names.lookup x = some .free → FV X scope r → FV X scope ((j, x) :: r)
theorem FV.get {X : Cx} {scope : Scope} : ∀ {fv : List (Nat × Str)} {k j : Nat} {x : Str}, FV X scope fv → fv[k]? = some (j, x) →
    X.N[j]? = some x ∧ (X.env.scope.names.lookup x = some .cell ∨ X.env.scope.names.lookup x = some .free) ∧ scope.names.lookup x = some .free
  | _, _, _, _, .nil, e => by simp at e
  | _, 0, _, _, .cons a b c _, e => by
    simp at e
    obtain ⟨rfl, rfl⟩ := e
    exact ⟨a, b, c⟩
  | _, k + 1, _, _, .cons _ _ _ r, e => FV.get (k := k) r (by simpa using e)

theorem lookup_relabel_free {env : Env} : ∀ {names : List (Str × NameKind)} {x : Str}, names.lookup x = some .free →
    (names.map fun (n, k) => if (k == NameKind.free && env.scope.kind == .function && env.kindOf n == some .cell) then (n, NameKind.cell) else (n, k)).lookup x = some .cell ∨
    (names.map fun (n, k) => if (k == NameKind.free && env.scope.kind == .function && env.kindOf n == some .cell) then (n, NameKind.cell) else (n, k)).lookup x = some .free
  | [], _, h => by simp at h
  | (n, k) :: r, x, h => by
    have ih := @lookup_relabel_free env r x
    rw [List.map_cons]
    dsimp only
    cases hx : x == n with
    | true =>
      simp only [List.lookup_cons, hx] at h
      cases h
      by_cases hc : (NameKind.free == NameKind.free && env.scope.kind == .function && env.kindOf n == some .cell) = true
      · left; rw [if_pos hc]; simp only [List.lookup_cons, hx]
      · right; rw [if_neg hc]; simp only [List.lookup_cons, hx]
    | false =>
      simp only [List.lookup_cons, hx] at h
      by_cases hc : (k == NameKind.free && env.scope.kind == .function && env.kindOf n == some .cell) = true
      · rw [if_pos hc]; simp only [List.lookup_cons, hx]; exact ih h
      · rw [if_neg hc]; simp only [List.lookup_cons, hx]; exact ih h
theorem of_lookup_relabel {env : Env} : ∀ {names : List (Str × NameKind)} {x : Str},
    ((names.map fun (n, k) => if (k == NameKind.free && env.scope.kind == .function && env.kindOf n == some .cell) then (n, NameKind.cell) else (n, k)).lookup x = some .cell ∨
    (names.map fun (n, k) => if (k == NameKind.free && env.scope.kind == .function && env.kindOf n == some .cell) then (n, NameKind.cell) else (n, k)).lookup x = some .free) →
    names.lookup x = some .cell ∨ names.lookup x = some .free
  | [], _, h => by simp at h
  | (n, k) :: r, x, h => by
    have ih := @of_lookup_relabel env r x
    rw [List.map_cons] at h
    dsimp only at h
    cases hx : x == n with
    | true =>
      by_cases hc : (k == NameKind.free && env.scope.kind == .function && env.kindOf n == some .cell) = true
      · right
        have hk : (k == NameKind.free) = true := (Bool.and_eq_true_iff.mp (Bool.and_eq_true_iff.mp hc).1).1
        have hk' : k = .free := by simpa using hk
        simp only [List.lookup_cons, hx, hk']
      · rw [if_neg hc] at h
        simp only [List.lookup_cons, hx] at h ⊢
        exact h
    | false =>
      by_cases hc : (k == NameKind.free && env.scope.kind == .function && env.kindOf n == some .cell) = true
      · rw [if_pos hc] at h; simp only [List.lookup_cons, hx] at h ⊢; exact ih h
      · rw [if_neg hc] at h; simp only [List.lookup_cons, hx] at h ⊢; exact ih h

/-- the cells that a block takes along -/
theorem closure_of {env : Env} : ∀ (names : List (Str × NameKind)) (cs : List (Str × Addr)), (∀ x, (x, NameKind.free) ∈ names → ∃ c, env.cells.lookup x = some c) → (∀ x c, cs.lookup x = some c → env.cells.lookup x = some c) →
    ∃ cl : List (Str × Addr), (forIn names cs (fun (x : Str × NameKind) (cs : List (Str × Addr)) => if x.2 == NameKind.free then (cellOf env x.1 >>= fun c => pure (ForInStep.yield ((x.1, c) :: cs))) else pure (ForInStep.yield cs)) : Sem (List (Str × Addr))) = pure cl ∧
      (∀ x c, cl.lookup x = some c → env.cells.lookup x = some c) ∧ (∀ x, (∃ c, cs.lookup x = some c) ∨ (x, NameKind.free) ∈ names → ∃ c, cl.lookup x = some c)
  | [], cs, _, h2 => ⟨cs, rfl, h2, fun x h => h.elim id fun z => nomatch z⟩
  | (n, k) :: r, cs, h1, h2 => by
    rw [List.forIn_cons]
    by_cases hk : k = .free
    · subst hk
      obtain ⟨c, hc⟩ := h1 n List.mem_cons_self
      have e : cellOf env n = pure c := by unfold cellOf; rw [hc]
      obtain ⟨cl, e1, e2, e3⟩ := closure_of r ((n, c) :: cs) (fun x hx => h1 x (List.mem_cons_of_mem _ hx)) (fun x d hx => by
        rw [List.lookup_cons] at hx
        cases q : x == n with
        | true =>
          rw [q] at hx
          have q' : x = n := by simpa using q
          rw [q', hc]
          exact hx
        | false => rw [q] at hx; exact h2 x d hx)
      refine ⟨cl, ?_, e2, fun x hx => e3 x ?_⟩
      · simp only [beq_self_eq_true, if_true, e, pure_bind]
        exact e1
      · rcases hx with ⟨d, hd⟩ | hx
        · left
          rw [List.lookup_cons]
          cases q : x == n with
          | true => exact ⟨_, rfl⟩
          | false => exact ⟨d, hd⟩
        · rcases List.mem_cons.mp hx with z | z
          · left
            have : x = n := congrArg Prod.fst z
            subst this
            exact ⟨c, by simp [List.lookup_cons]⟩
          · exact .inr z
    · have hb : (k == NameKind.free) = false := by simpa using hk
      obtain ⟨cl, e1, e2, e3⟩ := closure_of r cs (fun x hx => h1 x (List.mem_cons_of_mem _ hx)) h2
      refine ⟨cl, ?_, e2, fun x hx => e3 x ?_⟩
      · simp only [hb, Bool.false_eq_true, if_false, pure_bind]
        exact e1
      · rcases hx with z | z
        · exact .inl z
        · rcases List.mem_cons.mp z with z | z
          · exact absurd (congrArg Prod.snd z).symm hk
          · exact .inr z
theorem closureFor_of {scope : Scope} {env : Env} (h1 : ∀ x, (x, NameKind.free) ∈ scope.names → ∃ c, env.cells.lookup x = some c) :
    ∃ cl : List (Str × Addr), closureFor scope env = pure cl ∧ (∀ x c, cl.lookup x = some c → env.cells.lookup x = some c) ∧ (∀ x, (x, NameKind.free) ∈ scope.names → ∃ c, cl.lookup x = some c) := by
  obtain ⟨cl, e1, e2, e3⟩ := closure_of (env := env) scope.names [] h1 (fun x c h => by simp at h)
  refine ⟨cl, ?_, e2, fun x hx => e3 x (.inr hx)⟩
  have e : closureFor scope env = ((forIn scope.names ([] : List (Str × Addr)) (fun (x : Str × NameKind) (cs : List (Str × Addr)) => if x.2 == NameKind.free then (cellOf env x.1 >>= fun c => pure (ForInStep.yield ((x.1, c) :: cs))) else pure (ForInStep.yield cs)) : Sem (List (Str × Addr))) >>= fun cs => pure cs) := rfl
  rw [e, e1]
  rfl

/-- the block's names at its entry -/
def cstart (n : Nat) (fv : List (Nat × Str)) (σ : St) : St := List.replicate n none ++ fv.map fun q => (σ[q.1]?).join

theorem inv_comp {X : Cx} {pins : List (Addr × Obj)} {σ : St} {H : Hp} {s : Shared} {own : List Str} {fv : List (Nat × Str)} {scope : Scope} {cl : List (Str × Addr)} {fp : List Addr} {h1 : Heap} {ob : Obj} {m : Str → Option Value} {t' : Nat}
    (I : Inv X pins σ H s) (hk : scope.kind = .function) (F : FV X scope fv) (c1 : ∀ x c, cl.lookup x = some c → X.env.cells.lookup x = some c) (c2 : ∀ x, (x, NameKind.free) ∈ scope.names → ∃ c, cl.lookup x = some c)
    (hnc : ∀ y ∈ scope.names, y.2 ≠ .cell) (hfp : ∀ b ∈ fp, FpOk X pins H b) (hlt : ∀ b ∈ fp, b < s.heap.objs.size)
    (hn : h1.Ns s.heap.objs.size m) (hsb : Heap.SameBut s.heap.objs.size (s.heap.push ob) h1) :
    Inv (ccx X (own ++ fv.map (·.2)) scope cl s.heap.objs.size fp s H) [] (cstart own.length fv σ) H { s with heap := h1, toks := t' } := by
  have keep : ∀ b u, s.heap.get? b = some u → h1.get? b = some u := fun b u e => (hsb.2 b (Nat.ne_of_lt (Heap.lt_size e))).trans (Heap.get?_push_of_some _ e)
  have free_of : ∀ x, (scope.names.lookup x = some .cell ∨ scope.names.lookup x = some .free) → (x, NameKind.free) ∈ scope.names := fun x h => by
    rcases h with h | h
    · exact absurd rfl (hnc _ (PySem.mem_of_lookup h))
    · exact PySem.mem_of_lookup h
  refine ⟨⟨I.ok.mod, hk, I.ok.glob, I.ok.blt, Nat.le_refl _, fun x y c e1 e2 => I.ok.inj x y c (c1 x c e1) (c1 y c e2), fun x h => c2 x (free_of x (of_lookup_relabel (env := X.env) h)), fun _ _ h _ => (Bool.false_ne_true h).elim,
      I.ok.hd, I.ok.frames, .inl rfl, fun b hb => ⟨Nat.ne_of_lt (hlt b hb), fun x c e => (hfp b hb).2.2.2.2.1 x c (c1 x c e)⟩, I.bs, Nat.le_trans I.ok.bsz I.sz, fun b o e hb => ?_, fun b hb hf => ?_, I.stack, I.stkFree⟩,
    rfl, I.bare, Un.kept keep, ⟨m, hn, fun i x v e1 e2 e3 => ?_⟩, fun x c e => ?_, I.hok.fresh (Nat.le_refl _), fun x c e => I.freeC x c (c1 x c e), fun p hp => absurd (show p ∈ ([] : List (Addr × Obj)) from hp) (by simp), I.hok.kept keep, ?_⟩
  · rcases (hfp b hb).2.2.2.1 with z | z
    · exact I.ok.noex b o e z
    · exact absurd (Nat.lt_of_lt_of_le (Heap.lt_size e) (Nat.le_trans I.ok.bsz z)) (Nat.lt_irrefl _)
  · rcases List.mem_cons.mp (I.stkSub b hf) with z | z
    · exact (hfp b hb).2.1 z
    · exact (hfp b hb).2.2.1 z
  · have e1 : (own ++ fv.map (·.2))[i]? = some x := e1
    by_cases hi : i < own.length
    · have e2 : (cstart own.length fv σ)[i]? = some (some v) := e2
      unfold cstart at e2
      rw [List.getElem?_append_left (by simpa using hi), List.getElem?_replicate] at e2
      split at e2 <;> cases e2
    · have e2 : (cstart own.length fv σ)[i]? = some (some v) := e2
      unfold cstart at e2
      rw [List.getElem?_append_right (by simpa using hi), List.length_replicate, List.getElem?_map] at e2
      rw [List.getElem?_append_right (by omega), List.getElem?_map] at e1
      cases q : fv[i - own.length]? with
      | none => rw [q] at e1; cases e1
      | some p =>
        obtain ⟨j, y⟩ := p
        rw [q] at e1 e2
        have e1 : some y = some x := e1
        cases e1
        have e2 : some (σ[j]?).join = some (some v) := e2
        have e2 := Option.some.inj e2
        obtain ⟨f1, f2, f3⟩ := F.get q
        have e4 : σ[j]? = some (some v) := by
          cases r : σ[j]? with
          | none => rw [r] at e2; cases e2
          | some z => rw [r] at e2; exact congrArg some e2
        obtain ⟨m0, hn0, hl0⟩ := I.loc
        obtain ⟨u, ru, lk⟩ := hl0 j x v f1 e4 (.inr f2)
        refine ⟨u, ru, ?_⟩
        rcases lk with ⟨k1, _⟩ | ⟨k1, c, k2, k3⟩
        · exfalso
          have k1 : X.env.scope.names.lookup x = some .local := k1
          rcases f2 with f2 | f2 <;> (rw [k1] at f2; cases f2)
        · obtain ⟨c', hc'⟩ := c2 x (PySem.mem_of_lookup f3)
          have := c1 x c' hc'
          rw [k2] at this
          cases this
          refine .inr ⟨lookup_relabel_free (env := X.env) f3, c, hc', ?_⟩
          obtain ⟨o, ho, hd⟩ := k3
          exact ⟨o, keep _ _ ho, hd⟩
  · obtain ⟨v, o, ho, hd⟩ := I.cell x c (c1 x c e)
    exact ⟨v, o, keep _ _ ho, hd⟩
  · show (cstart own.length fv σ).length = (own ++ fv.map (·.2)).length
    unfold cstart
    simp

/-- the tests of a comprehension -/
def PIfs (X : Cx) (ifs : List Expr) (t : TT) : Prop :=
  ∀ (pins : List (Addr × Obj)) (s : Shared) (σ : St) (H : Hp) (Q : Bool → Hp → Prop), Inv X pins σ H s → t σ H Q →
    wpAny (model X.prog X.w) X.A (forIn ifs true fun c r => if r = true then do let ok ← isTrue c X.env (eval c X.env); pure (ForInStep.yield ok) else pure (ForInStep.yield r)) (TP X pins σ Q) X.xe s
def tAll : TT := fun _ H Q => Q true H
theorem pifs_nil {X : Cx} : PIfs X [] tAll := fun pins s σ H Q I h => wpAny_tests_nil ⟨H, I, h⟩
theorem pifs_one {X : Cx} {c : Expr} {t : TT} (h : PT X c t) : PIfs X [c] t := fun pins s σ H Q I hw => wpAny_tests_one (h pins s σ H Q I hw)

section
variable {prog : Program} {w : World} {A : Around} {R : Result → Shared → Prop} {s : Shared}
theorem compLoop_any {elt target iter : Expr} {ifs : List Expr} {scope : Scope} {pos : Pos} {it acc : Value} {env : Env} (I : Nat → Shared → Prop)
    (turn : ∀ n s, I n s → wpAny (model prog w) A (pyNext it) (fun r s₁ => match r with
      | none => R (.ok .next) s₁
      | some v => wpAny (model prog w) A (letOwnedTupleGo target it v) (fun _ s₁ => wpAny (model prog w) A (assign target env v) (fun _ s₂ =>
          wpAny (model prog w) A (forIn ifs true fun c r => if r = true then do let ok ← isTrue c env (eval c env); pure (ForInStep.yield ok) else pure (ForInStep.yield r)) (fun ok s₃ =>
            if ok = true then wpAny (model prog w) A (eval elt env) (fun x s₄ =>
              wpAny (model prog w) A (call (.builtin "list.append") [acc, x]) (fun _ s₅ => ∃ m, m < n ∧ I m s₅) (fun _ _ => False) s₄) (fun _ _ => False) s₃
            else ∃ m, m < n ∧ I m s₃) (fun _ _ => False) s₂) (fun _ _ => False) s₁) (fun _ _ => False) s₁) (fun _ _ => False) s)
    (n : Nat) (h : I n s) :
    codeAny (model prog w) A (.compLoop (.ListComp elt [⟨target, iter, ifs, 0⟩] scope pos) 0 it acc env) R s := by
  refine codeAny_loop rfl I (fun n s hI => ?_) n h
  show wpAny _ A ((compTurn (.ListComp elt [⟨target, iter, ifs, 0⟩] scope pos) 0 it acc env).onRaise (fun x => do noteFrame x env; theTreesLotGoes x)) _ _ s
  refine wpAny_noted ?_
  rw [compTurn_list]
  refine wpAny_bind (wpAny_standAt (wpAny_bind (wpAny_mono (turn n s hI) (fun r s₁ h₁ => ?_) fun _ _ h' => h'.elim)))
  cases r with
  | none => exact wpAny_pure h₁
  | some v =>
    refine wpAny_bind (wpAny_mono h₁ (fun _ s₁ h₁ => ?_) fun _ _ h' => h'.elim)
    refine wpAny_bind (wpAny_mono h₁ (fun _ s₂ h₂ => wpAny_bind (wpAny_mono h₂ (fun ok s₃ h₃ => ?_) fun _ _ h' => h'.elim)) fun _ _ h' => h'.elim)
    cases ok with
    | false => exact wpAny_pure ⟨rfl, h₃⟩
    | true =>
      exact wpAny_bind (wpAny_bind (wpAny_mono h₃ (fun x s₄ h₄ => wpAny_bind (wpAny_mono h₄ (fun _ s₅ h₅ => wpAny_pure (wpAny_pure ⟨rfl, h₅⟩)) fun _ _ h' => h'.elim)) fun _ _ h' => h'.elim))
end

/-- what a comprehension must show: W by the turn and a measure, the block's names, the heap; the new list stands at p -/
def CompW (p : Addr) (J : It) (g : TG) (tt : TT) (te : TE) (Q : Hp → Prop) (σ0 : St) (H0 : Hp) : Prop :=
  ∃ W : Nat → Nat → St → Hp → Prop, (∃ m, W 0 m σ0 H0) ∧ ∀ i m σ H, W i m σ H →
    (J.stop i H ∧ Q H) ∨ (J.go i H ∧ ∃ (N : V → St → Hp → Prop) (N' : St → Hp → Prop), (∀ v σ' H', N v σ' H' → ∃ ys, H' p = some (.lst ys) ∧ ys.length < sizeLine ∧ ∃ m', m' < m ∧ W (i + 1) m' σ' (upd H' p (.lst (ys ++ [v])))) ∧
      (∀ σ' H', N' σ' H' → ∃ m', m' < m ∧ W (i + 1) m' σ' H') ∧
      ∀ x H', J.yld i H x H' → g x σ H' fun σ2 H2 => tt σ2 H2 fun b H3 => if b = true then te σ2 H3 fun v H4 => N v σ2 H4 else N' σ2 H3)
def tComp (n : Nat) (fv : List (Nat × Str)) (wi : TI) (g : TG) (tt : TT) (te : TE) : TE := fun σ H Q => wi σ H fun J H1 => ∀ p, H1 p = none → CompW p J g tt te (fun H' => Q (.ref p) H') (cstart n fv σ) (upd H1 p (.lst []))

section
variable {X : Cx} {elt tg iter : Expr} {ifs : List Expr} {scope : Scope} {pos : Pos} {wi : TI} {g : TG} {tt : TT} {te : TE}

/-- the names that a scope keeps: none is a cell, the locals are found as such, each free one stands in the def around -/
structure CScope (esc scope : Scope) : Prop where
  kind : scope.kind = .function
  nocell : ∀ y ∈ scope.names, y.2 ≠ .cell
  loc : ∀ x ∈ scope.names, x.2 = .local → scope.names.lookup x.1 = some .local
  fre : ∀ y ∈ scope.names, y.2 = .free → esc.names.lookup y.1 = some .cell ∨ esc.names.lookup y.1 = some .free

/-- the block, from the iterator on: RR is what is wanted of the end -/
theorem comp_block {pins : List (Addr × Obj)} {σ : St} {H2 : Hp} {s2 : Shared} {it : Addr} {fp : List Addr} {tn : Nat → Heap → Prop} {J : It} {cl : List (Str × Addr)} {Q : VK} {own : List Str} {fv : List (Nat × Str)} {RR : Value → Addr → Result → Shared → Prop} {E : Value → Shared → Prop}
    (hc : X.calm = true) (S : CScope X.env.scope scope) (F : FV X scope fv) (c1 : ∀ x c, cl.lookup x = some c → X.env.cells.lookup x = some c) (c2 : ∀ x, (x, NameKind.free) ∈ scope.names → ∃ c, cl.lookup x = some c)
    (hg : ∀ cl C fp s H, PG (ccx X (own ++ fv.map (·.2)) scope cl C fp s H) tg g) (ht : ∀ cl C fp s H, PIfs (ccx X (own ++ fv.map (·.2)) scope cl C fp s H) ifs tt) (he : ∀ cl C fp s H, PE (ccx X (own ++ fv.map (·.2)) scope cl C fp s H) elt te)
    (I2 : Inv X pins σ H2 s2) (T : Turn X.prog X.w X.K tg J fp it tn) (st2 : tn 0 s2.heap) (f2 : ∀ b ∈ fp, FpOk X pins H2 b)
    (q : ∀ p, H2 p = none → CompW p J g tt te (fun H' => Q (.ref p) H') (cstart own.length fv σ) (upd H2 p (.lst [])))
    (hRR : ∀ (p C : Addr) (H' : Hp) (s' : Shared), Inv X pins σ H' s' → (∃ m, s'.heap.Ns C m) → FpOk X pins H' C → Q (.ref p) H' → RR (.ref p) C (.ok .next) s') :
    wpAny (model X.prog X.w) X.A (newList []) (fun acc s₃ => wpAny (model X.prog X.w) X.A (newFunctionEnv scope X.env.globals cl [] X.env.qual none .none (some X.env)) (fun cenv s₄ =>
      codeAny (model X.prog X.w) X.A (.compStart (.ListComp elt [⟨tg, iter, ifs, 0⟩] scope pos) 0 (.ref it) acc { cenv with scope := relabel scope X.env }) (RR acc cenv.locals) s₄) E s₃) E s2 := by
  have q := q s2.heap.objs.size (I2.hok.fresh (Nat.le_refl _))
  have I3 := I2.lnew (ys := []) (its := []) (t' := s2.toks) .nil (Nat.zero_le _)
  have hp0 : H2 s2.heap.objs.size = none := I2.hok.fresh (Nat.le_refl _)
  refine wpAny_newObj_type (wpAny_newFunctionEnv S.nocell (by intro y hy; simp at hy) (fun h₁ hns₁ hsb₁ => ?_) S.kind)
  have f3 : ∀ b ∈ fp, FpOk X pins (upd H2 s2.heap.objs.size (.lst [])) b := fun b hb => by
    obtain ⟨o, e, _⟩ := T.obj 0 _ st2 b hb
    exact ⟨by rw [upd_ne (Nat.ne_of_lt (Heap.lt_size e))]; exact (f2 b hb).1, (f2 b hb).2⟩
  have lt3 : ∀ b ∈ fp, b < (s2.heap.push { cls := .type "list", data := .seq ([] : List Value).toArray }).objs.size := fun b hb => by
    obtain ⟨o, e, _⟩ := T.obj 0 _ st2 b hb
    exact Heap.lt_size (Heap.get?_push_of_some _ e)
  have st4 : tn 0 h₁ := T.keep 0 _ _ st2 fun b hb o e => (hsb₁.2 b (Nat.ne_of_lt (lt3 b hb))).trans (Heap.get?_push_of_some _ (Heap.get?_push_of_some _ e))
  have I4 := inv_comp (own := own) (fv := fv) (t' := s2.toks + ([] : List (Str × Value)).length) I3 S.kind F c1 c2 S.nocell f3 lt3 hns₁ hsb₁
  obtain ⟨W, ⟨m0, w0⟩, turn⟩ := q
  generalize hC : (s2.heap.push { cls := .type "list", data := .seq ([] : List Value).toArray }).objs.size = C at *
  have loop : codeAny (model X.prog X.w) X.A (.compLoop (.ListComp elt [⟨tg, iter, ifs, 0⟩] scope pos) 0 (.ref it) (.ref s2.heap.objs.size) (compEnvC scope cl C X.env)) (RR (.ref s2.heap.objs.size) C)
      { s2 with heap := h₁, toks := s2.toks + ([] : List (Str × Value)).length } := by
    generalize hY : ccx X (own ++ fv.map (·.2)) scope cl C fp { s2 with heap := s2.heap.push { cls := .type "list", data := .seq ([] : List Value).toArray } } (upd H2 s2.heap.objs.size (.lst [])) = Y at I4
    have stat : ∀ {H' : Hp}, (∀ b ∈ fp, H' b = none) → ∀ b ∈ fp, FpOk Y [] H' b := fun {H'} hn b hb => by
      subst hY
      refine ⟨hn b hb, Nat.ne_of_lt (lt3 b hb), fun z => ?_, .inl hb, fun x c e => (f3 b hb).2.2.2.2.1 x c (c1 x c e), fun p hp => absurd (show p ∈ ([] : List (Addr × Obj)) from hp) (by simp)⟩
      rcases List.mem_cons.mp (I3.stkSub b z) with z | z
      · exact (f3 b hb).2.1 z
      · exact (f3 b hb).2.2.1 z
    have eP : Y.prog = X.prog := by subst hY; rfl
    have ew : Y.w = X.w := by subst hY; rfl
    have eK : Y.K = X.K := by subst hY; rfl
    have eA : Y.A = X.A := by subst hY; rfl
    have eC : Y.calm = true := by subst hY; exact hc
    have eE : Y.env = compEnvC scope cl C X.env := by subst hY; rfl
    have ex : Y.xe = fun _ _ => False := by subst hY; rfl
    have hg' : PG Y tg g := by subst hY; exact hg _ _ _ _ _
    have ht' : PIfs Y ifs tt := by subst hY; exact ht _ _ _ _ _
    have he' : PE Y elt te := by subst hY; exact he _ _ _ _ _
    unfold PG at hg'
    unfold PIfs at ht'
    unfold PE at he'
    rw [eP, ew, eA, eE, ex] at hg' ht' he'
    refine compLoop_any (fun n s' => ∃ i σ' H', Inv Y [] σ' H' s' ∧ tn i s'.heap ∧ (∀ b ∈ fp, H' b = none) ∧ W i n σ' H') ?_ m0 ⟨0, _, _, I4, st4, fun b hb => (f3 b hb).1, w0⟩
    rintro n s3 ⟨i, σ3, H3, J3, st3, fr3, w3⟩
    rcases turn i n σ3 H3 w3 with ⟨stop, qn⟩ | ⟨go, N, N', hN, hN', step⟩
    · have d := T.done Y eP ew eK eC i [] s3 σ3 H3 (fun _ _ => False) J3 (stat fr3) st3 stop
      rw [eA] at d
      refine thn d fun r s4 ⟨hr, J4⟩ => ?_
      subst hr
      show RR _ C (.ok .next) s4
      have u := J4.base
      have hok := J4.hok
      have os := J4.os
      have bare := J4.bare
      obtain ⟨m4, n4, _⟩ := J4.loc
      have fC := J4.free
      subst hY
      have I5 : Inv X pins σ H3 s4 := I3.call' (ch := fp) os u hok bare fun b hb => ⟨(f3 b hb).2.2.2.1, (f3 b hb).2.1, (f3 b hb).2.2.2.2.1, (f3 b hb).2.2.2.2.2⟩
      refine hRR _ C H3 s4 I5 ⟨m4, n4⟩ ?_ qn
      rw [← hC]
      exact I3.fpOk (Nat.le_refl _) (by show H3 _ = none; rw [hC]; exact fC)
    · have d := T.item Y eP ew eK eC i [] s3 σ3 H3 (fun _ _ => False) J3 (stat fr3) st3 go
      rw [eA] at d
      refine thn d fun r s4 ⟨u, hr, h4⟩ => ?_
      subst hr
      refine thn h4 fun _ s5 ⟨x, H5, J5, r5, y5, st5, fr5⟩ => ?_
      have J5' := J5.pinned (stat fr5) (T.obj _ _ st5)
      refine thn (hg' _ s5 σ3 H5 x u _ J5' r5 (step x H5 y5)) fun _ s6 ⟨σ6, H6, J6, q6⟩ => ?_
      refine thn (ht' _ s6 σ6 H6 _ J6 q6) fun ok s7 ⟨H7, J7, q7⟩ => ?_
      have again : ∀ {s8 : Shared} {H8 : Hp}, Inv Y ([] ++ pinsAt fp s5.heap) σ6 H8 s8 → (∃ m', m' < n ∧ W (i + 1) m' σ6 H8) → ∃ m, m < n ∧ ∃ i σ' H', Inv Y [] σ' H' s8 ∧ tn i s8.heap ∧ (∀ b ∈ fp, H' b = none) ∧ W i m σ' H' := fun {s8 H8} J8 ⟨m', hm, w8⟩ => by
        refine ⟨m', hm, i + 1, σ6, H8, J8.unpinned, T.keep _ _ _ st5 fun b hb o e => (J8.pin (b, o) (List.mem_append_right _ (List.mem_append_right _ (mem_pinsAt hb e)))).1, fun b hb => ?_, w8⟩
        obtain ⟨o, e, d⟩ := T.obj _ _ st5 b hb
        exact (J8.pin (b, o) (List.mem_append_right _ (List.mem_append_right _ (mem_pinsAt hb e)))).2.1
      cases ok with
      | false =>
        rw [if_neg Bool.false_ne_true] at q7 ⊢
        exact again J7 (hN' _ _ q7)
      | true =>
        rw [if_pos rfl] at q7 ⊢
        refine thn (he' _ s7 σ6 H7 _ J7 q7) fun xv s8 ⟨v, H8, J8, r8, q8⟩ => ?_
        obtain ⟨ys, hy, hz, q8⟩ := hN _ _ _ q8
        obtain ⟨z, its, n', r, hl, e⟩ := J8.lstM hy
        refine call_meets PySem.F.slot_list_append ⟨_, e, rfl⟩ PySem.F.entry_list_append (PySem.F.args_list_append_2 _ _) (PySem.list_append s2.heap.objs.size its.toArray n' xv (by rw [List.size_toArray]; omega)) ⟨e, ?_⟩
        refine again (J8.lset (its' := its ++ [xv]) (t' := s8.toks) hy e (by simp) (r.append (.cons r8 .nil)) ?_) q8
        rw [List.length_append, List.length_singleton]
        omega
  exact codeAny_compStart_list loop (T.self X.A 0 _ _ _ st4 loop)

theorem comp_closure {pins : List (Addr × Obj)} {σ : St} {H : Hp} {s : Shared} (S : CScope X.env.scope scope) (I : Inv X pins σ H s) :
    ∃ cl : List (Str × Addr), closureFor scope X.env = pure cl ∧ (∀ x c, cl.lookup x = some c → X.env.cells.lookup x = some c) ∧ (∀ x, (x, NameKind.free) ∈ scope.names → ∃ c, cl.lookup x = some c) :=
  closureFor_of fun x hx => I.ok.has x (S.fre (x, .free) hx rfl)

/-- [elt for tg in iter if ..]: own the block's names, fv those of the def around (slot, name) -/
theorem pe_comp {own : List Str} {fv : List (Nat × Str)} (hc : X.calm = true) (S : CScope X.env.scope scope) (F : FV X scope fv) (hi : PI X tg iter wi)
    (hg : ∀ cl C fp s H, PG (ccx X (own ++ fv.map (·.2)) scope cl C fp s H) tg g) (ht : ∀ cl C fp s H, PIfs (ccx X (own ++ fv.map (·.2)) scope cl C fp s H) ifs tt) (he : ∀ cl C fp s H, PE (ccx X (own ++ fv.map (·.2)) scope cl C fp s H) elt te)
    (hs : ∀ x, foldedSetIterable iter X.env x = pure x := by intro _; rfl) : PE X (.ListComp elt [⟨tg, iter, ifs, 0⟩] scope pos) (tComp own.length fv wi g tt te) := by
  intro pins s σ H Q I h
  rw [eval_ListComp]
  obtain ⟨cl, hcl, c1, c2⟩ := comp_closure S I
  refine wpAny_comprehension_free (use := none) rfl hs hcl S.kind S.loc (thn (hi pins s σ H _ I h) fun v s1 h1 => thn h1 fun itv s2 h2 => ?_)
  obtain ⟨it, fp, tn, J, H2, e, I2, T, st2, f2, q⟩ := h2
  subst e
  refine comp_block (Q := Q) (RR := fun acc C => compPost (model X.prog X.w) X.A X.xe none (EP X pins σ Q) acc C) hc S F c1 c2 hg ht he I2 T st2 f2 q fun p C H' s' I' hn hC hq => ?_
  obtain ⟨m, hn⟩ := hn
  refine ⟨m, hn, fun h' hs' => ⟨.ref p, H', ?_, rfl, hq⟩⟩
  exact I'.turned (t' := s'.toks) (fun b o hb e => (hs'.2 b hb).trans e) hC.1 hC.2.1 hC.2.2.2.1 hC.2.2.2.2.1 hC.2.2.2.2.2

/-- name = [elt for ..], where the store comes ahead of letting the block's names go -/
theorem ps_setComp {own : List Str} {fv : List (Nat × Str)} {i : Nat} {y : Str} {py spos : Pos} (hN : X.N.Nodup) (hi' : X.N[i]? = some y) (hy : X.env.scope.names.lookup y = some .local) (hc : X.calm = true) (S : CScope X.env.scope scope) (F : FV X scope fv) (hi : PI X tg iter wi)
    (hg : ∀ cl C fp s H, PG (ccx X (own ++ fv.map (·.2)) scope cl C fp s H) tg g) (ht : ∀ cl C fp s H, PIfs (ccx X (own ++ fv.map (·.2)) scope cl C fp s H) ifs tt) (he : ∀ cl C fp s H, PE (ccx X (own ++ fv.map (·.2)) scope cl C fp s H) elt te)
    (hsw : swapsWith (.ListComp elt [⟨tg, iter, ifs, 0⟩] scope pos) (some (.Name y py)) spos.line X.env = pure true := by rfl)
    (hs : ∀ x, foldedSetIterable iter X.env x = pure x := by intro _; rfl) : PS X (.Assign [.Name y py] (.ListComp elt [⟨tg, iter, ifs, 0⟩] scope pos) spos) (tAsg (tComp own.length fv wi g tt te) (gName i)) := by
  intro pins s σ H D I h
  rw [exec_Assign_Name_used _ _ _ _ hsw]
  obtain ⟨cl, hcl, c1, c2⟩ := comp_closure S I
  refine wpAny_bind (wpAny_standAt (wpAny_bind ?_))
  show wpAny _ X.A (do let _ ← comprehension (.ListComp elt [⟨tg, iter, ifs, 0⟩] scope pos) scope X.env _ (newList []) false (eval iter X.env) (some (assign (.Name y py) X.env))) _ _ s
  refine wpAny_bind (wpAny_mono (wpAny_comprehension_free (use := some (assign (.Name y py) X.env)) (Q := fun _ s' => SP X pins D .next s') rfl hs hcl S.kind S.loc (thn (hi pins s σ H _ I h) fun v s1 h1 => thn h1 fun itv s2 h2 => ?_)) (fun _ s' hq => wpAny_pure (wpAny_pure hq)) fun _ _ e => e)
  obtain ⟨it, fp, tn, J, H2, e, I2, T, st2, f2, q⟩ := h2
  subst e
  refine comp_block (Q := fun x H1 => gName i x σ H1 D.nx) (RR := fun acc C => compPost (model X.prog X.w) X.A X.xe (some (assign (.Name y py) X.env)) (fun _ s' => SP X pins D .next s') acc C) hc S F c1 c2 hg ht he I2 T st2 f2 q fun p C H' s' I' hn hC hq => ?_
  obtain ⟨m, hn⟩ := hn
  show wpAny _ X.A (assign (.Name y py) X.env (.ref p)) _ _ _
  refine wpAny_assign_Name (store_ok2 I' hN hi' (.inl hy) (v := .ref p) rfl (fun s'' I'' sb => ?_) (.inr hy))
  obtain ⟨a, sb, ha⟩ := sb
  have hCa : C ≠ a := by
    rcases ha with ha | ha
    · rw [ha]; exact hC.2.1
    · exact fun z => hC.2.2.2.2.1 y a ha z.symm
  refine ⟨m, hn.sameBut sb hCa, fun h' hs' => ⟨_, H', ?_, hq⟩⟩
  exact I''.turned (t' := s''.toks) (fun b o hb e => (hs'.2 b hb).trans e) hC.1 hC.2.1 hC.2.2.2.1 hC.2.2.2.2.1 hC.2.2.2.2.2
end

/-! ### the form one uses: the list that grows is kept apart -/
/-- Pv by the turn, the items so far and the heap; the new list itself is looked after -/
theorem comp_tup {K : PySem.W.Frag} {a p : Addr} {xs : List V} {g : TG} {te : TE} {Q : Hp → Prop} {σ0 : St} {H0 : Hp} (hxs : xs.length ≤ sizeLine) (Pv : Nat → List V → St → Hp → Prop) (h0 : Pv 0 [] σ0 (upd H0 p (.lst [])))
    (hl : ∀ i ys σ H, i ≤ xs.length → Pv i ys σ H → SqT K H a xs)
    (hs : ∀ i x ys σ H, xs[i]? = some x → ys.length = i → Pv i ys σ H → H p = some (.lst ys) → g x σ H fun σ2 H2 => te σ2 H2 fun v H4 => H4 p = some (.lst ys) ∧ Pv (i + 1) (ys ++ [v]) σ2 (upd H4 p (.lst (ys ++ [v]))))
    (hd : ∀ ys σ H, ys.length = xs.length → Pv xs.length ys σ H → H p = some (.lst ys) → Q H) : CompW p (Itt K a) g tAll te Q σ0 (upd H0 p (.lst [])) := by
  refine ⟨fun i m σ H => m = xs.length - i ∧ i ≤ xs.length ∧ ∃ ys, ys.length = i ∧ Pv i ys σ H ∧ H p = some (.lst ys), ⟨xs.length, by simp, Nat.zero_le _, [], rfl, h0, upd_same⟩, ?_⟩
  rintro i m σ H ⟨rfl, hi, ys, hy, pv, hp⟩
  have q := hl i ys σ H hi pv
  by_cases hlt : i < xs.length
  · refine .inr ⟨⟨xs, xs[i], q, by simp [hlt]⟩, fun v σ' H' => H' p = some (.lst ys) ∧ Pv (i + 1) (ys ++ [v]) σ' (upd H' p (.lst (ys ++ [v]))), fun _ _ => False, fun v σ' H' ⟨e1, e2⟩ => ⟨ys, e1, by omega, xs.length - (i + 1), by omega, rfl, hlt, ys ++ [v], by simp [hy], e2, upd_same⟩, fun _ _ z => z.elim, fun x H' y => ?_⟩
    obtain ⟨e, y⟩ := y
    subst e
    exact hs i x ys σ _ (y xs q) hy pv hp
  · have e : i = xs.length := by omega
    subst e
    exact .inl ⟨⟨xs, q, Nat.le_refl _⟩, hd ys σ H hy pv hp⟩
theorem comp_list {K : PySem.W.Frag} {a p : Addr} {xs : List V} {g : TG} {te : TE} {Q : Hp → Prop} {σ0 : St} {H0 : Hp} (hxs : xs.length ≤ sizeLine) (Pv : Nat → List V → St → Hp → Prop) (h0 : Pv 0 [] σ0 (upd H0 p (.lst [])))
    (hl : ∀ i ys σ H, i ≤ xs.length → Pv i ys σ H → SqL K H a xs)
    (hs : ∀ i x ys σ H, xs[i]? = some x → ys.length = i → Pv i ys σ H → H p = some (.lst ys) → g x σ H fun σ2 H2 => te σ2 H2 fun v H4 => H4 p = some (.lst ys) ∧ Pv (i + 1) (ys ++ [v]) σ2 (upd H4 p (.lst (ys ++ [v]))))
    (hd : ∀ ys σ H, ys.length = xs.length → Pv xs.length ys σ H → H p = some (.lst ys) → Q H) : CompW p (Itl K a) g tAll te Q σ0 (upd H0 p (.lst [])) := by
  refine ⟨fun i m σ H => m = xs.length - i ∧ i ≤ xs.length ∧ ∃ ys, ys.length = i ∧ Pv i ys σ H ∧ H p = some (.lst ys), ⟨xs.length, by simp, Nat.zero_le _, [], rfl, h0, upd_same⟩, ?_⟩
  rintro i m σ H ⟨rfl, hi, ys, hy, pv, hp⟩
  have q := hl i ys σ H hi pv
  by_cases hlt : i < xs.length
  · refine .inr ⟨⟨xs, xs[i], q, by simp [hlt]⟩, fun v σ' H' => H' p = some (.lst ys) ∧ Pv (i + 1) (ys ++ [v]) σ' (upd H' p (.lst (ys ++ [v]))), fun _ _ => False, fun v σ' H' ⟨e1, e2⟩ => ⟨ys, e1, by omega, xs.length - (i + 1), by omega, rfl, hlt, ys ++ [v], by simp [hy], e2, upd_same⟩, fun _ _ z => z.elim, fun x H' y => ?_⟩
    obtain ⟨e, y⟩ := y
    subst e
    exact hs i x ys σ _ (y xs q) hy pv hp
  · have e : i = xs.length := by omega
    subst e
    exact .inl ⟨⟨xs, q, Nat.le_refl _⟩, hd ys σ H hy pv hp⟩
end L2

set_option Elab.async false
set_option linter.all false
set_option maxRecDepth 100000
/-! Data over the hand layer: equality of nested lists and tuples, in, isinstance, reversed(tuple), setdefault. -/
namespace L2
open PySem PySem.Spec PyProof.Rows

mutual
/-- a value as data -/
inductive Dt (H : Hp) : V → PyData → Prop
  | non : Dt H .non .none
  | bl (b : Bool) : Dt H (.bl b) (.bool b)
  | int (i : Int) : Dt H (.int i) (.int i)
  | str (x : Str) : Dt H (.str x) (.str x)
  | lst {a : Addr} {xs : List V} {ds : List PyData} : H a = some (.lst xs) → Dts H xs ds → Dt H (.ref a) (.list ds)
  | tup {a : Addr} {xs : List V} {ds : List PyData} : H a = some (.tup xs) → Dts H xs ds → Dt H (.ref a) (.tuple ds)
inductive Dts (H : Hp) : List V → List PyData → Prop
  | nil : Dts H [] []
  | cons {x : V} {xs : List V} {d : PyData} {ds : List PyData} : Dt H x d → Dts H xs ds → Dts H (x :: xs) (d :: ds)
end
mutual
theorem Dt.same {H H' : Hp} (e : Same H H') : ∀ {v : V} {d : PyData}, Dt H v d → Dt H' v d
  | _, _, .non => .non
  | _, _, .bl b => .bl b
  | _, _, .int i => .int i
  | _, _, .str x => .str x
  | _, _, .lst h t => .lst (e _ _ h) (Dts.same e t)
  | _, _, .tup h t => .tup (e _ _ h) (Dts.same e t)
theorem Dts.same {H H' : Hp} (e : Same H H') : ∀ {xs : List V} {ds : List PyData}, Dts H xs ds → Dts H' xs ds
  | _, _, .nil => .nil
  | _, _, .cons h t => .cons (Dt.same e h) (Dts.same e t)
end
theorem Dts.length {H : Hp} : ∀ {xs : List V} {ds : List PyData}, Dts H xs ds → xs.length = ds.length
  | _, _, .nil => rfl
  | _, _, .cons _ t => by rw [List.length_cons, List.length_cons, t.length]
theorem Dts.append {H : Hp} : ∀ {xs ys : List V} {ds es : List PyData}, Dts H xs ds → Dts H ys es → Dts H (xs ++ ys) (ds ++ es)
  | _, _, _, _, .nil, t => t
  | _, _, _, _, .cons h r, t => .cons h (r.append t)
theorem Dts.get {H : Hp} : ∀ {xs : List V} {ds : List PyData} {i : Nat} {x : V}, Dts H xs ds → xs[i]? = some x → ∃ d, ds[i]? = some d ∧ Dt H x d
  | _, _, _, _, .nil, e => by simp at e
  | _, _, 0, _, .cons h _, e => by
    simp at e
    subst e
    exact ⟨_, rfl, h⟩
  | _, _, i + 1, _, .cons _ t, e => by
    obtain ⟨d, h1, h2⟩ := Dts.get (i := i) t (by simpa using e)
    exact ⟨d, by simpa using h1, h2⟩
mutual
theorem Dt.reads {P : Program} {w : World} {H : Hp} {h : Heap} (ok : HOk P w H h) : ∀ {v : V} {d : PyData} {u : Value}, Dt H v d → RelV v u → ∃ as, Reads h u d as
  | _, _, u, .non, r => ⟨[], by cases (show u = Value.none from r); exact .none⟩
  | _, _, u, .bl b, r => ⟨[], by cases (show u = Value.bool b from r); exact .bool b⟩
  | _, _, u, .int i, r => ⟨[], by obtain ⟨t, e⟩ := (show ∃ t, u = Value.int i t from r); cases e; exact .int i t⟩
  | _, _, u, .str x, r => ⟨[], by obtain ⟨t, e⟩ := (show ∃ t, u = Value.str x t from r); cases e; exact .str x t⟩
  | _, _, u, .lst (a := a) (xs := xs) e t, r => by
    obtain ⟨_, its, n, rv, ho⟩ := (show ObjOk P w H h a (.lst xs) from ok a _ e)
    obtain ⟨as, ra⟩ := Dts.reads ok t rv
    cases (show u = Value.ref a from r)
    exact ⟨a :: as, .list ho rfl rfl (by simpa using ra)⟩
  | _, _, u, .tup (a := a) (xs := xs) e t, r => by
    obtain ⟨_, its, rv, o, ho, hc, n, hd⟩ := (show ObjOk P w H h a (.tup xs) from ok a _ e)
    obtain ⟨as, ra⟩ := Dts.reads ok t rv
    cases (show u = Value.ref a from r)
    exact ⟨as, .tuple ho hc hd (by simpa using ra)⟩
theorem Dts.reads {P : Program} {w : World} {H : Hp} {h : Heap} (ok : HOk P w H h) : ∀ {xs : List V} {ds : List PyData} {us : List Value}, Dts H xs ds → Vals xs us → ∃ as, ReadsAll h us ds as
  | _, _, _, .nil, .nil => ⟨[], .nil⟩
  | _, _, _, .cons d t, .cons r rr => by
    obtain ⟨as, ra⟩ := Dt.reads ok d r
    obtain ⟨bs, rb⟩ := Dts.reads ok t rr
    exact ⟨as ++ bs, .cons ra rb⟩
end

/-- data of both sides, and their depth -/
def rDat (f : Bool → Bool) : R2 := fun x y H Q => ∃ dx dy, Dt H x dx ∧ Dt H y dy ∧ dx.canLay0 = true ∧ dy.canLay0 = true ∧ min dx.depth dy.depth ≤ 64 ∧ Q (.bl (f (PyData.eqv dx dy))) H
def rDatIn (f : Bool → Bool) : R2 := fun x y H Q => ∃ dx ds, Dt H x dx ∧ Dt H y (.list ds) ∧ dx.canLay0 = true ∧ PyData.canLayAll0 ds = true ∧ min (PyData.depthAll ds) dx.depth ≤ 63 ∧ Q (.bl (f (ds.any fun d => PyData.eqv d dx))) H
section
variable {X : Cx}
theorem op_eqD (hu : X.A.units + 64 < cLine) : OpR X (compareOp .Eq) (rDat fun b => b) := by
  intro pins s σ H x y v u Q I rx ry h
  obtain ⟨dx, dy, h1, h2, c1, c2, hm, q⟩ := h
  obtain ⟨as, ra⟩ := h1.reads I.hok rx
  obtain ⟨bs, rb⟩ := h2.reads I.hok ry
  exact PySem.SeqAt.compareEq_reads ra rb c1 c2 (by omega) ⟨.bl _, H, I, rfl, q⟩
theorem op_neD (hu : X.A.units + 64 < cLine) : OpR X (compareOp .NotEq) (rDat fun b => !b) := by
  intro pins s σ H x y v u Q I rx ry h
  obtain ⟨dx, dy, h1, h2, c1, c2, hm, q⟩ := h
  obtain ⟨as, ra⟩ := h1.reads I.hok rx
  obtain ⟨bs, rb⟩ := h2.reads I.hok ry
  exact PySem.SeqAt.compareNe_reads ra rb c1 c2 (by omega) ⟨.bl _, H, I, rfl, q⟩
theorem op_inD (hu : X.A.units + 64 < cLine) : OpR X (compareOp .In) (rDatIn fun b => b) := by
  intro pins s σ H x y v u Q I rx ry h
  obtain ⟨dx, ds, h1, h2, c1, c2, hm, q⟩ := h
  obtain ⟨as, ra⟩ := h1.reads I.hok rx
  obtain ⟨bs, rb⟩ := h2.reads I.hok ry
  exact PySem.SeqAt.in_list_reads rb ra c2 c1 (by omega) ⟨.bl _, H, I, rfl, q⟩
theorem op_notInD (hu : X.A.units + 64 < cLine) : OpR X (compareOp .NotIn) (rDatIn fun b => !b) := by
  intro pins s σ H x y v u Q I rx ry h
  obtain ⟨dx, ds, h1, h2, c1, c2, hm, q⟩ := h
  obtain ⟨as, ra⟩ := h1.reads I.hok rx
  obtain ⟨bs, rb⟩ := h2.reads I.hok ry
  exact PySem.SeqAt.notIn_list_reads rb ra c2 c1 (by omega) ⟨.bl _, H, I, rfl, q⟩

/-! ### isinstance -/
/-- isinstance(x, T), T a written builtin type -/
def rIsi (K : PySem.W.Frag) : List V → Hp → VK → Prop := fun xs H Q => ∃ x n t b, xs = [x, .ty n] ∧ TyOf K H x t ∧ PySem.W.kitOne K t (.type n) = some b ∧ Q (.bl b) H
theorem call_isi : CallR X (.builtin "isinstance") (rIsi X.K) := by
  intro pins s σ H xs us Q I r h
  obtain ⟨x, n, t, b, rfl, ty, e, q⟩ := h
  obtain ⟨u, w', rfl, rx, ry⟩ := vals2 r
  cases (show w' = Value.type n from ry)
  exact isinst_ok I rx ty e fun tk => ⟨.bl b, H, I.tok tk, rfl, q⟩
/-- isinstance(x, (T, U)) -/
def rIsi2 (K : PySem.W.Frag) : List V → Hp → VK → Prop := fun xs H Q => ∃ x p n m t b, xs = [x, .ref p] ∧ H p = some (.tup [.ty n, .ty m]) ∧ TyOf K H x (.type t) ∧ PySem.W.kitAny K (.type t) [.type n, .type m] = some b ∧ Q (.bl b) H
theorem call_isi2 : CallR X (.builtin "isinstance") (rIsi2 X.K) := by
  intro pins s σ H xs us Q I r h
  obtain ⟨x, p, n, m, t, b, rfl, hp, ty, e, q⟩ := h
  obtain ⟨u, w', rfl, rx, ry⟩ := vals2 r
  cases (show w' = Value.ref p from ry)
  obtain ⟨_, its, rv, o, ho, hc, k, hd⟩ := (show ObjOk X.prog X.w H s.heap p (.tup [.ty n, .ty m]) from I.hok p _ hp)
  obtain ⟨u1, u2, e1, r1, r2⟩ := vals2 rv
  subst e1
  cases (show u1 = Value.type n from r1)
  cases (show u2 = Value.type m from r2)
  obtain ⟨oc, od, odt, os⟩ := o
  cases (show oc = Value.type "tuple" from hc)
  cases (show odt = Data.seq _ k from hd)
  have fin : ∀ tk, EP X pins σ Q (.bool b) { s with toks := tk } := fun tk => ⟨.bl b, H, I.tok tk, rfl, q⟩
  cases ty with
  | non => cases (show u = Value.none from rx); exact PySem.W.kia_tup PySem.W.kitx_none I.kIn True.intro ho e (fun z => nomatch z) fin
  | bl y => cases (show u = Value.bool y from rx); exact PySem.W.kia_tup PySem.W.kitx_bool I.kIn True.intro ho e (fun z => nomatch z) fin
  | int i => obtain ⟨t, q⟩ := (show ∃ t, u = Value.int i t from rx); cases q; exact PySem.W.kia_tup PySem.W.kitx_int I.kIn True.intro ho e (fun z => nomatch z) fin
  | str y => obtain ⟨t, q⟩ := (show ∃ t, u = Value.str y t from rx); cases q; exact PySem.W.kia_tup PySem.W.kitx_str I.kIn True.intro ho e (fun z => nomatch z) fin
  | flt y => obtain ⟨t, q⟩ := (show ∃ t, u = Value.float y t from rx); cases q; exact PySem.W.kia_tup PySem.W.kitx_float I.kIn True.intro ho e (fun z => nomatch z) fin
  | @lst a xs ea =>
    cases (show u = Value.ref a from rx)
    obtain ⟨_, _, n, _, h1⟩ := (show ObjOk X.prog X.w H s.heap a (.lst xs) from I.hok a _ ea)
    exact PySem.W.kia_tup PySem.W.kitx_list I.kIn ⟨_, h1, rfl⟩ ho e (fun z => nomatch z) fin
  | @frz a ob xs ea =>
    cases (show u = Value.ref a from rx)
    obtain ⟨_, _, _, n, _, h1⟩ := (show ObjOk X.prog X.w H s.heap a (.frz ob (.lst xs)) from I.hok a _ ea)
    exact PySem.W.kia_tup PySem.W.kitx_list I.kIn ⟨_, h1, rfl⟩ ho e (fun z => nomatch z) fin
  | @tup a xs ea =>
    cases (show u = Value.ref a from rx)
    obtain ⟨_, _, _, p⟩ := (show ObjOk X.prog X.w H s.heap a (.tup xs) from I.hok a _ ea)
    obtain ⟨o, h1, h2, _⟩ := p
    exact PySem.W.kia_tup PySem.W.kitx_tuple I.kIn ⟨o, h1, h2⟩ ho e (fun z => nomatch z) fin
  | @dK a kvs ea =>
    cases (show u = Value.ref a from rx)
    obtain ⟨_, _, vs, _, p⟩ := (show ObjOk X.prog X.w H s.heap a (.dK kvs) from I.hok a _ ea)
    obtain ⟨o, es, ep, h1, h2, _⟩ := p
    exact PySem.W.kia_tup PySem.W.kitx_dict I.kIn ⟨o, h1, h2.1⟩ ho e (fun z => nomatch z) fin
  | @dT a kvs ea =>
    cases (show u = Value.ref a from rx)
    obtain ⟨_, _, xs, _, o, es, ep, h1, h2, _⟩ := (show ObjOk X.prog X.w H s.heap a (.dT kvs) from I.hok a _ ea)
    exact PySem.W.kia_tup PySem.W.kitx_dict I.kIn ⟨o, h1, h2.1⟩ ho e (fun z => nomatch z) fin
end

/-! ### the types that the laws ask for -/
theorem isi_ll {K : PySem.W.Frag} : PySem.W.kitOne K (.type "list") (.type "list") = some true := by rfl
theorem isi_tt {K : PySem.W.Frag} : PySem.W.kitOne K (.type "tuple") (.type "tuple") = some true := by rfl
theorem isi_lt {K : PySem.W.Frag} : PySem.W.kitOne K (.type "list") (.type "tuple") = some false := by kernel_rfl
theorem isi_tl {K : PySem.W.Frag} : PySem.W.kitOne K (.type "tuple") (.type "list") = some false := by kernel_rfl
theorem isi_ss {K : PySem.W.Frag} : PySem.W.kitOne K (.type "str") (.type "str") = some true := by rfl
theorem isi_bs {K : PySem.W.Frag} : PySem.W.kitOne K (.type "bool") (.type "str") = some false := by kernel_rfl
theorem isi_is {K : PySem.W.Frag} : PySem.W.kitOne K (.type "int") (.type "str") = some false := by kernel_rfl
theorem isi_ns {K : PySem.W.Frag} : PySem.W.kitOne K (.type "NoneType") (.type "str") = some false := by kernel_rfl
theorem isi_bb {K : PySem.W.Frag} : PySem.W.kitOne K (.type "bool") (.type "bool") = some true := by rfl
theorem isi_ib {K : PySem.W.Frag} : PySem.W.kitOne K (.type "int") (.type "bool") = some false := by kernel_rfl
theorem isi_nb {K : PySem.W.Frag} : PySem.W.kitOne K (.type "NoneType") (.type "bool") = some false := by kernel_rfl
theorem isi_ii {K : PySem.W.Frag} : PySem.W.kitOne K (.type "int") (.type "int") = some true := by rfl
theorem isi2_l {K : PySem.W.Frag} : PySem.W.kitAny K (.type "list") [.type "list", .type "tuple"] = some true := by rfl
theorem isi2_t {K : PySem.W.Frag} : PySem.W.kitAny K (.type "tuple") [.type "list", .type "tuple"] = some true := by unfold PySem.W.kitAny; rw [isi_tl]; rfl
theorem isi2_of {K : PySem.W.Frag} {t : String} (h1 : PySem.W.kitOne K (.type t) (.type "list") = some false) (h2 : PySem.W.kitOne K (.type t) (.type "tuple") = some false) : PySem.W.kitAny K (.type t) [.type "list", .type "tuple"] = some false := by
  unfold PySem.W.kitAny; rw [h1]; unfold PySem.W.kitAny; rw [h2]; rfl
theorem isi_sl {K : PySem.W.Frag} : PySem.W.kitOne K (.type "str") (.type "list") = some false := by kernel_rfl
theorem isi_st {K : PySem.W.Frag} : PySem.W.kitOne K (.type "str") (.type "tuple") = some false := by kernel_rfl
theorem isi_il {K : PySem.W.Frag} : PySem.W.kitOne K (.type "int") (.type "list") = some false := by kernel_rfl
theorem isi_it {K : PySem.W.Frag} : PySem.W.kitOne K (.type "int") (.type "tuple") = some false := by kernel_rfl
theorem isi_bl {K : PySem.W.Frag} : PySem.W.kitOne K (.type "bool") (.type "list") = some false := by kernel_rfl
theorem isi_bt {K : PySem.W.Frag} : PySem.W.kitOne K (.type "bool") (.type "tuple") = some false := by kernel_rfl
theorem isi_nl {K : PySem.W.Frag} : PySem.W.kitOne K (.type "NoneType") (.type "list") = some false := by kernel_rfl
theorem isi_nt {K : PySem.W.Frag} : PySem.W.kitOne K (.type "NoneType") (.type "tuple") = some false := by kernel_rfl
end L2

/-! ### reversed(tuple) -/
namespace PySem
namespace F
theorem owner_rvt : Manifest.owners.lookup (String.ofList ['d', 'e', 's', 'r', 'e', 'v', 'e', 'r'].reverse) = some Manifest.sig_reversed := by kernel_rfl
theorem slot_rvt_next : Slot "reversed" "__next__" "reversed.__next__" :=
  .of (owner := "reversed") (n := "__next__") (by rw [typeLookup_type, builtinLookup_eq_fast]; kernel_rfl) (by decide +kernel) (by decide +kernel) (by decide +kernel)
    (by first | exact .inl (by decide +kernel) | exact .inr (by decide +kernel)) (by rw [isSubtype_type]; kernel_rfl)
theorem entry_rvt_next : entryFor table "reversed.__next__" = some Builtin.«reversed.__next__» := entryFor_of_tree (by kernel_rfl)
theorem args_rvt_next_1 (a : Value) : argsOk "reversed.__next__" ⟨[a], []⟩ := by
  unfold argsOk; rw [signature?_of (id := "reversed.__next__") (n := ['_', '_', 't', 'x', 'e', 'n', '_', '_']) (o := ['d', 'e', 's', 'r', 'e', 'v', 'e', 'r']) (by kernel_rfl) owner_rvt]; kernel_rfl
theorem slot_rvt_iter : Slot "reversed" "__iter__" "reversed.__iter__" :=
  .of (owner := "reversed") (n := "__iter__") (by rw [typeLookup_type, builtinLookup_eq_fast]; kernel_rfl) (by decide +kernel) (by decide +kernel) (by decide +kernel)
    (by first | exact .inl (by decide +kernel) | exact .inr (by decide +kernel)) (by rw [isSubtype_type]; kernel_rfl)
theorem args_rvt_iter_1 (a : Value) : argsOk "reversed.__iter__" ⟨[a], []⟩ := by
  unfold argsOk; rw [signature?_of (id := "reversed.__iter__") (n := ['_', '_', 'r', 'e', 't', 'i', '_', '_']) (o := ['d', 'e', 's', 'r', 'e', 'v', 'e', 'r']) (by kernel_rfl) owner_rvt]; kernel_rfl
theorem entry_rvt_iter : entryFor table "reversed.__iter__" = some Builtin.«dict_keyiterator.__iter__» :=
  entryFor_alias (id' := "dict_keyiterator.__iter__") (by kernel_rfl) (by first | rfl | decide +kernel | (unfold String.splitOn; simp +decide [String.splitOnAux])) (by decide +kernel) (by kernel_rfl)
theorem tuple_no_reversed : typeLookup (.type "tuple") "__reversed__" = pure none := by rw [typeLookup_type, builtinLookup_eq_fast]; kernel_rfl
end F
end PySem

namespace PySem
namespace F
theorem sub_tuple_dict_r : isSubtype (.type "tuple") (.type "dict") = pure false := by rw [isSubtype_type]; kernel_rfl
theorem slot_reversed_init : Slot "reversed" "__init__" "object.__init__" :=
  .of (owner := "object") (n := "__init__") (by rw [typeLookup_type, builtinLookup_eq_fast]; kernel_rfl) (by decide +kernel) (by decide +kernel) (by decide +kernel)
    (by first | exact .inl (by decide +kernel) | exact .inr (by decide +kernel)) (by rw [isSubtype_type]; kernel_rfl)
theorem called_reversed : TypeCalled "reversed" "reversed.__new__" "object.__init__" :=
  ⟨by decide +kernel, by decide +kernel, ⟨_, _, mro_reversed⟩, made_reversed, by decide +kernel, by rw [isSubtype_type]; kernel_rfl, slot_reversed_init⟩
end F
section
variable {prog : Program} {w : World} {A : Around} {E : Value → Shared → Prop} {s : Shared}
open PyProof.Rows

def revTObj (l : Addr) (i : Int) : Obj := { cls := .type "reversed", data := .fields #[.ref l, rawInt i] }
def Heap.IsRevT (h : Heap) (a l : Addr) (i : Int) : Prop := ∃ o, h.get? a = some o ∧ o.cls = .type "reversed" ∧ o.data = .fields #[.ref l, rawInt i]
theorem Heap.IsRevT.typeIs {a l : Addr} {i : Int} (x : s.heap.IsRevT a l i) : s.TypeIs (.ref a) "reversed" := let ⟨o, ho, hc, _⟩ := x; ⟨o, ho, hc⟩
theorem Heap.IsRevT.at {h h' : Heap} {a l : Addr} {i : Int} (x : h.IsRevT a l i) (e : ∀ o, h.get? a = some o → h'.get? a = some o) : h'.IsRevT a l i := let ⟨o, ho, r⟩ := x; ⟨o, e _ ho, r⟩

theorem meets_reversed_newT (l : Addr) (items : Array Value) (hfit : (items.size : Int) < 2 ^ 63) :
    Meets (Builtin.«reversed.__new__» ⟨[.type "reversed", .ref l], []⟩) (fun _ R s => IsTup s.heap l items ∧
      R (.ok (.ret (.ref s.heap.objs.size))) { s with heap := s.heap.push (revTObj l ((items.size : Int) - 1)), toks := s.toks + 1 + 1 }) := by
  refine Meets.of_wp fun prog w A R s hs => ?_
  obtain ⟨hl, h⟩ := hs
  unfold Builtin.«reversed.__new__»
  refine wpAny_bind (wpAny_of_eq (newClass_reversed _) ?_)
  try dsimp only
  refine wpAny_bind (wpAny_of_eq (a := ()) (by first | rfl | kernel_rfl) ?_)
  refine wpAny_bind (wpAny_of_eq (a := ()) (by first | rfl | kernel_rfl) ?_)
  try dsimp only
  refine wpAny_bind (wpAny_specialOf hl.typeIs F.tuple_no_reversed ?_)
  try dsimp only
  refine wpAny_bind ?_
  show wpAny _ _ (isInstance (.ref l) (.type "dict") >>= _) _ _ s
  refine wpAny_bind (wpAny_isInstance hl.typeIs F.sub_tuple_dict_r ?_)
  try dsimp only
  try simp only [Bool.false_eq_true, if_false]
  refine wpAny_bind (wpAny_specialOf hl.typeIs F.slot_tuple_getitem.lookup ?_)
  refine wpAny_pure ?_
  show wpAny _ _ (call (.builtin "len") [.ref l] >>= _) _ _ s
  refine wpAny_bind (len_tuple hl hfit ?_)
  refine wpAny_bind (wpAny_of_eq (a := some (items.size : Int)) rfl ?_)
  try dsimp only
  refine wpAny_bind ?_
  show wpAny _ _ (newObj (.type "reversed") (.fields #[.ref l, rawInt ((items.size : Int) - 1)])) _ _ _
  exact wpAny_newObj_type (wpAny_pure ⟨_, rfl, h⟩)

theorem call_reversed_tuple {l : Addr} {items : Array Value} {Q : Value → Shared → Prop} (hl : IsTup s.heap l items) (hfit : (items.size : Int) < 2 ^ 63)
    (h : Q (.ref s.heap.objs.size) { s with heap := s.heap.push (revTObj l ((items.size : Int) - 1)), toks := s.toks + 1 + 1 }) : wpAny (model prog w) A (call (.type "reversed") [.ref l]) Q E s :=
  callType_new F.called_reversed (by decide) (F.typeCall_reversed_1 _) (F.newCall_reversed_1 _) (fun obj => F.args_object_init_2 obj _) F.entry_reversed_new (meets_reversed_newT l items hfit) ⟨hl, ⟨_, Heap.get?_push_size _ rfl, rfl⟩, h⟩

theorem wpAny_pyNext_revT_item {it l : Addr} {i : Nat} {items : Array Value} {x : Value} {Q : Option Value → Shared → Prop} (hit : s.heap.IsRevT it l (i : Int)) (hl : IsTup s.heap l items) (hfit : (items.size : Int) < 2 ^ 63) (hx : items[i]? = some x)
    (hQ : ∀ h', h'.IsRevT it l ((i : Int) - 1) → Heap.SameBut it s.heap h' → Q (some x) { s with heap := h', toks := s.toks + 1 }) : wpAny (model prog w) A (pyNext (.ref it)) Q E s := by
  obtain ⟨o, ho, hc, hd⟩ := id hit
  have hi : i < items.size := by
    rcases Nat.lt_or_ge i items.size with h | h
    · exact h
    · rw [Array.getElem?_eq_none h] at hx; cases hx
  unfold pyNext
  refine wpAny_bind (wpAny_attempt (wpAny_callSpecial?_slot (name := Str.ofString "__next__") hit.typeIs F.slot_rvt_next
    (wpAny_call_entry F.slot_rvt_next hit.typeIs F.entry_rvt_next ?_ (F.args_rvt_next_1 _))))
  unfold Builtin.«reversed.__next__»
  refine wpAny_bind (wpAny_of_eq (a := (Value.ref it, [])) rfl ?_)
  try dsimp only
  refine wpAny_bind (wpAny_field ho hd (x := .ref l) rfl ?_)
  refine wpAny_bind (wpAny_field ho hd (x := rawInt (i : Int)) rfl ?_)
  show wpAny _ _ (if (i : Int) < 0 then _ else _) _ _ s
  rw [if_neg (by omega)]
  show wpAny _ _ (specialOf (.ref l) _ >>= _) _ _ s
  refine wpAny_bind (wpAny_specialOf hl.typeIs F.slot_tuple_getitem.lookup ?_)
  simp only [Option.isNone_some, Bool.false_eq_true, if_false]
  refine wpAny_bind (wpAny_mkInt ?_)
  refine wpAny_bind (wpAny_attempt (getItem_tuple hl (by omega) (by omega) (j := i) (by simp [seqIndex?]; omega) hx ?_))
  try dsimp only
  refine wpAny_bind (wpAny_field ho hd (x := rawInt (i : Int)) rfl ?_)
  try dsimp only
  refine wpAny_bind (wpAny_setField ho hd (by simp) ?_)
  refine wpAny_pure ⟨x, rfl, wpAny_pure (hQ _ ?_ (Heap.SameBut.update ..))⟩
  exact ⟨_, Heap.get?_update_self _ ho (Obj.isFreed_of_fields (Obj.data_mapFields hd _)), (Obj.cls_mapFields ..).trans hc, by
    rw [Obj.data_mapFields hd]; simp⟩

theorem wpAny_pyNext_revT_end {it l : Addr} {Q : Option Value → Shared → Prop} (hh : A.handled = none) (hit : s.heap.IsRevT it l (-1))
    (hQ : ∀ h', Heap.ExtBut it s.heap h' → Q none { s with heap := h' }) : wpAny (model prog w) A (pyNext (.ref it)) Q E s := by
  obtain ⟨o, ho, hc, hd⟩ := id hit
  unfold pyNext
  refine wpAny_bind (wpAny_attempt (wpAny_callSpecial?_slot (name := Str.ofString "__next__") hit.typeIs F.slot_rvt_next
    (wpAny_call_entry F.slot_rvt_next hit.typeIs F.entry_rvt_next ?_ (F.args_rvt_next_1 _))))
  unfold Builtin.«reversed.__next__»
  refine wpAny_bind (wpAny_of_eq (a := (Value.ref it, [])) rfl ?_)
  try dsimp only
  refine wpAny_bind (wpAny_field ho hd (x := .ref l) rfl ?_)
  refine wpAny_bind (wpAny_field ho hd (x := rawInt (-1)) rfl ?_)
  show wpAny _ _ (if (-1 : Int) < 0 then _ else _) _ _ s
  rw [if_pos (by decide)]
  refine wpAny_bind (wpAny_rule ?_)
  refine wpAny_bind ?_
  show wpAny _ _ (setField (.ref it) 1 (rawInt (-1)) >>= fun _ => setField (.ref it) 0 .none) _ _ s
  refine wpAny_bind (wpAny_setField ho hd (by simp) ?_)
  have e1 : (s.heap.update it (Obj.mapFields (·.setIfInBounds 1 (rawInt (-1))))).get? it = some (Obj.mapFields (·.setIfInBounds 1 (rawInt (-1))) o) := Heap.get?_update_self _ ho (Obj.isFreed_of_fields (Obj.data_mapFields hd _))
  refine wpAny_setField (s := { s with heap := s.heap.update it (Obj.mapFields (·.setIfInBounds 1 (rawInt (-1)))) }) e1 (Obj.data_mapFields hd _) (by simp) ?_
  have ext : Heap.ExtBut it s.heap ((s.heap.update it (Obj.mapFields (·.setIfInBounds 1 (rawInt (-1))))).update it (Obj.mapFields (·.setIfInBounds 0 .none))) := fun b o' hb e =>
    (Heap.get?_update_other _ _ (Ne.symm hb)).trans ((Heap.get?_update_other _ _ (Ne.symm hb)).trans e)
  first
  | show wpAny _ _ (newExc (.type "StopIteration") [] >>= _) _ _ _
  | (refine wpAny_bind ?_; show wpAny _ _ (newExc (.type "StopIteration") [] >>= _) _ _ _)
  refine wpAny_bind ?_
  simp only [newExc, newTuple]
  refine wpAny_bind (wpAny_newObj_type ?_ (by size_fits))
  refine wpAny_bind (m := firstArgMember _ _) (wpAny_of_eq (a := Value.none) (by first | rfl | (simp only [firstArgMember]; rfl)) ?_)
  refine wpAny_newObj_type ?_ (by size_fits)
  simp only [raiseNew]
  refine wpAny_bind (wpAny_handled ?_)
  first | rw [show A.in1.handled = none from hh] | rw [hh]
  refine wpAny_bind (wpAny_pure (wpAny_throw ?_))
  refine wpAny_bind (wpAny_isInstance (T := "StopIteration") (b := true) ⟨_, Heap.get?_push_size _ rfl, rfl⟩ isSubtype_stop ?_)
  exact wpAny_pure (hQ _ ((ext.push _).push _))

theorem wpAny_pyIter_revT {it l : Addr} {i : Int} {Q : Value → Shared → Prop} (hit : s.heap.IsRevT it l i) (h : Q (.ref it) s) : wpAny (model prog w) A (pyIter (.ref it)) Q E s := by
  refine wpAny_pyIter_slot hit.typeIs F.slot_rvt_iter (wpAny_call_entry F.slot_rvt_iter hit.typeIs F.entry_rvt_iter ?_ (F.args_rvt_iter_1 _))
  show wpAny _ _ (ret (.ref it)) _ _ s
  exact wpAny_pure ⟨_, rfl, "reversed", _, hit.typeIs, F.slot_rvt_next.lookup, h⟩
end
end PySem

/-! ### setdefault, keys of the heap -/
namespace PySem
section
variable {prog : Program} {w : World} {K : Type} [DecidableEq K] {knd : HeapKind prog w K} {A : Around} {E : Value → Shared → Prop} {s : Shared}
theorem wpAny_dictSetDefault_heap {d a : Addr} {xs : List (K × Addr × Value)} {k : K} {dflt : Value} {Q : Value → Shared → Prop} (hu : knd.room A) (hkey : knd.is s.heap k a) (hm : s.heap.DictOfH knd d xs)
    (hthere : ∀ p, atKey xs k = some p → Q p.2 { s with toks := s.toks + knd.draws k })
    (hnew : atKey xs k = none → ∀ h', h'.DictOfH knd d (xs ++ [(k, a, dflt)]) → Heap.SameBut d s.heap h' → Q dflt { s with heap := h', toks := s.toks + knd.draws k })
    (hsz : xs.length ≤ sizeLine) :
    wpAny (model prog w) A (dictSetDefault d (.ref a) dflt) Q E s := by
  obtain ⟨o, es, ep, ho, hc, hd, he, his, hn⟩ := hm
  unfold dictSetDefault
  try with_reducible refine wpAny_holding ?_
  refine wpAny_bind (knd.pyHash hu hkey ?_)
  refine wpAny_bind (wpAny_dictFind_heap (s := { s with toks := s.toks + knd.draws k }) hu hkey ho hd he his hn ?_ ?_)
  · intro hno
    have hnot : k ∉ xs.map (·.1) := not_mem_keys_of_get hno
    have hat := atKey_none_of_get hno
    refine wpAny_bind (wpAny_rule (wpAny_bind (wpAny_updateDictKeys (hz := by have e := size_of_entries he; omega) (s := { s with toks := s.toks + knd.draws k }) ho hd (wpAny_pure (hnew hat _ ⟨_, _, ep + 1, Heap.get?_update_self _ ho (Obj.isFreed_of_dict (Obj.data_mapDictKeys hd _)),
      hc.mapDictKeys _, Obj.data_mapDictKeys hd _, ?_, ?_, ?_⟩ (Heap.SameBut.update ..))))))
    · simp [he, entryOfKey]
    · intro x hx
      rcases List.mem_append.mp hx with hx | hx
      · exact knd.keeps (his x hx) ho hd (Heap.SameBut.update ..)
      · simp only [List.mem_singleton] at hx
        subst hx
        exact knd.keeps hkey ho hd (Heap.SameBut.update ..)
    · rw [List.map_append, List.nodup_append]
      refine ⟨hn, by simp, ?_⟩
      intro x hx y hy
      simp only [List.map_cons, List.map_nil, List.mem_singleton] at hy
      subst hy
      exact fun e => hnot (e ▸ hx)
  · intro j p hj
    have hat := atKey_of_get hn hj
    refine wpAny_bind (wpAny_dictEntries (s := { s with toks := s.toks + knd.draws k }) ho hd ?_)
    rw [entry_at he j, hj]
    exact wpAny_bind (wpAny_rule (wpAny_pure (hthere p hat)))
theorem meetsH_dict_setdefault (knd : HeapKind prog w K) (d a : Addr) (hd : (d == sysModules) = false) (dflt : Value) :
    MeetsIn prog w (Builtin.«dict.setdefault» ⟨[.ref d, .ref a, dflt], []⟩) (fun A R s => knd.room A.in1 ∧ ∃ k xs, knd.is s.heap k a ∧ s.heap.DictOfH knd d xs ∧ xs.length ≤ sizeLine ∧
      (∀ p, atKey xs k = some p → R (.ok (.ret p.2)) { s with toks := s.toks + knd.draws k }) ∧
      (atKey xs k = none → ∀ h', h'.DictOfH knd d (xs ++ [(k, a, dflt)]) → Heap.SameBut d s.heap h' → R (.ok (.ret dflt)) { s with heap := h', toks := s.toks + knd.draws k })) :=
  .of_wp fun A R s ⟨hu, k, xs, hkey, hm, hz, h1, h2⟩ => by
    unfold Builtin.«dict.setdefault»
    refine wpAny_bind ?_
    unfold Builtin.Dict.keyAndDefault
    refine wpAny_bind (wpAny_notOrdered_dict hm.typeIs ?_)
    show wpAny _ _ (pure (d, Value.ref a, some dflt)) _ _ s
    refine wpAny_pure ?_
    show wpAny _ _ (if (d == sysModules) = true then _ else (dictSetDefault d (.ref a) dflt >>= _)) _ _ s
    rw [if_neg (by rw [hd]; exact Bool.false_ne_true)]
    exact wpAny_bind (wpAny_dictSetDefault_heap hu hkey hm (fun p hv => wpAny_pure ⟨p.2, rfl, h1 p hv⟩) (fun hn h' hm' hs' => wpAny_pure ⟨dflt, rfl, h2 hn h' hm' hs'⟩) hz)
end
end PySem

namespace L2
open PySem PySem.Spec PyProof.Rows
/-- the items of the tuple at a, from the last to the first; n of them -/
def ItR (K : PySem.W.Frag) (a : Addr) (n : Nat) : It :=
  ⟨fun i H => ∃ xs, SqT K H a xs ∧ xs.length = n ∧ i < n, fun i H x H' => H' = H ∧ ∀ xs, SqT K H a xs → xs[n - 1 - i]? = some x, fun i _ => i = n⟩
theorem turn_rev {P : Program} {w : World} {K : PySem.W.Frag} {tg : Expr} (a it : Addr) (n : Nat) : Turn P w K tg (ItR K a n) [it] it (fun i h => i ≤ n ∧ h.IsRevT it a ((n : Int) - 1 - (i : Int))) where
  mem := by simp
  obj := fun i h st b hb => by
    have e : b = it := by simpa using hb
    subst e
    obtain ⟨_, o, e, c, d⟩ := st
    exact ⟨o, e, fun v z => by rw [d] at z; cases z⟩
  keep := fun i h h' st k => ⟨st.1, st.2.at fun o e => k it (by simp) o e⟩
  item := by
    intro X hP hw hK hc i pins s σ H E I hf st hg
    subst hP hw hK
    obtain ⟨xs, hq, hn, hi⟩ := hg
    obtain ⟨its, rv, p, hz⟩ := I.tuple hq
    have hl := rv.length
    have hlen : its.toArray.size = n := by rw [List.size_toArray, ← hl, hn]
    have hx : xs[n - 1 - i]? = some (xs[n - 1 - i]'(by omega)) := List.getElem?_eq_getElem (by omega)
    obtain ⟨u, hu, ru⟩ := rv.get hx
    obtain ⟨f0, f1, f2, f3, f4, f5⟩ := hf it (by simp)
    have e : (n : Int) - 1 - (i : Int) = ((n - 1 - i : Nat) : Int) := by omega
    have hit := st.2
    rw [e] at hit
    have hn63 := line63
    refine wpAny_pyNext_revT_item hit p (by rw [hlen]; omega) (x := u) (by simpa using hu) fun h' st' sb => ?_
    have I1 : Inv X pins σ H { s with heap := h', toks := s.toks + 1 } := I.turned (fun b o hb e => (sb.2 b hb).trans e) f0 f1 f3 f4 f5
    have e2 : ((n - 1 - i : Nat) : Int) - 1 = (n : Int) - 1 - ((i + 1 : Nat) : Int) := by omega
    rw [e2] at st'
    obtain ⟨o, e3, c, d⟩ := id st'
    exact ⟨u, rfl, go_of (s := { s with heap := h', toks := s.toks + 1 }) e3 c d (by decide) ⟨_, H, I1, ru, ⟨rfl, fun ys hy => by rw [I.tuple_inj hy hq]; exact hx⟩, ⟨hi, st'⟩, fun b hb => (hf b hb).1⟩⟩
  done := by
    intro X hP hw hK hc i pins s σ H E I hf st hg
    subst hP hw hK
    have hg : i = n := hg
    obtain ⟨f0, f1, f2, f3, f4, f5⟩ := hf it (by simp)
    have hit := st.2
    rw [show (n : Int) - 1 - (i : Int) = -1 by omega] at hit
    exact wpAny_pyNext_revT_end (I.ok.hd hc) hit fun h' eb => ⟨rfl, I.turned (t' := s.toks) (fun b o hb e => eb b o hb e) f0 f1 f3 f4 f5⟩
  self := fun _ _ _ _ _ st h => wpAny_pyIter_revT st.2 h
def iRev (K : PySem.W.Frag) (ta : TA) : TI := fun σ H R => ta σ H fun vs H1 => ∃ a xs, vs = [.ref a] ∧ SqT K H1 a xs ∧ R (ItR K a xs.length) H1
section
variable {X : Cx} {tg : Expr}
theorem pi_rev {a : Expr} {ta : TA} {p pos : Pos} (hg : Gl X "reversed") (hm : X.mg "reversed" = none) (ha : PA X [a] ta) (hs : starEach [a] X.env = [(false, eval a X.env)] := by rfl) : PI X tg (.Call (.Name "reversed" p) [a] [] pos) (iRev X.K ta) := by
  intro pins s σ H R I h
  refine Call_ (ld_blt I hg hm boot_reversed (PyProof.Rows.callWith_type1 (thn (ha pos pins s σ H _ I h) fun us s1 ⟨vs, H1, I1, r1, q1⟩ => ?_) hs rfl))
  obtain ⟨b, xs, e, hq, q⟩ := q1
  subst e
  obtain ⟨u, rfl, ru⟩ := vals1 r1
  cases (show u = Value.ref b from ru)
  obtain ⟨its, rv, pt, hz⟩ := I1.tuple hq
  have hl := rv.length
  have hn63 := line63
  refine call_reversed_tuple pt (by rw [List.size_toArray]; omega) ?_
  have I2 : Inv X pins σ H1 { s1 with heap := s1.heap.push (revTObj b ((its.toArray.size : Int) - 1)), toks := s1.toks + 1 + 1 } := I1.kept fun b o e => Heap.get?_push_of_some _ e
  have st : (s1.heap.push (revTObj b ((its.toArray.size : Int) - 1))).IsRevT s1.heap.objs.size b ((xs.length : Int) - 1 - ((0 : Nat) : Int)) := by
    have e0 : (xs.length : Int) - 1 - ((0 : Nat) : Int) = (its.toArray.size : Int) - 1 := by rw [List.size_toArray]; omega
    rw [e0]
    exact ⟨_, Heap.get?_push_size _ rfl, rfl, rfl⟩
  refine wpAny_pyIter_revT st ⟨s1.heap.objs.size, [s1.heap.objs.size], _, _, H1, rfl, I2, turn_rev b _ xs.length, ⟨Nat.zero_le _, st⟩, fun c hc => ?_, q⟩
  have e : c = s1.heap.objs.size := by simpa using hc
  subst e
  exact I1.fpOk (Nat.le_refl _) (I1.hok.fresh (Nat.le_refl _))

/-- d.setdefault(k, v), the keys tuples -/
def rSetDef : V → List V → Hp → VK → Prop := fun x vs H Q => ∃ d b dv kvs k, x = .ref d ∧ vs = [.ref b, dv] ∧ H d = some (.dT kvs) ∧ H b = some (.tup (k.map kV)) ∧ kvs.length < sizeLine ∧
  (∀ v, valV kvs k = some v → Q v H) ∧ (valV kvs k = none → Q dv (upd H d (.dT (kvs ++ [(k, dv)]))))
theorem mt_setdef (hu : X.A.units + 1 < cLine) : MtR X "dict.setdefault" rSetDef := by
  intro pins s σ H x vs v us Q I rx rv h
  obtain ⟨d, b, dv, kvs, k, rfl, rfl, e, eb, hz, q1, q2⟩ := h
  cases (show v = Value.ref d from rx)
  obtain ⟨u1, u2, rfl, r1, r2⟩ := vals2 rv
  cases (show u1 = Value.ref b from r1)
  obtain ⟨z, hd, xs, rel, dd⟩ := dt_of I.hok e
  have hxl : kvs.length = xs.length := Paired.length rel
  refine call_meetsIn F.slot_dict_setdefault dd.typeIs F.entry_dict_setdefault (F.args_dict_setdefault_3 _ _ _) (meetsH_dict_setdefault (tupleKind (mixKind X.prog X.w)) d b hd u2) ⟨tupleKind_room_in1 hu, k, xs, key_of I.hok eb, dd, by omega, fun p hp => ?_, fun hn h' dd' hs => ?_⟩
  · have rk := rel.val k
    rw [hp] at rk
    cases q : valV kvs k with
    | none => rw [q] at rk; exact (show False from rk).elim
    | some y =>
      rw [q] at rk
      exact ⟨y, H, I.tok _, rk, q1 y q⟩
  · have rk := rel.val k
    rw [hn] at rk
    cases q : valV kvs k with
    | some y => rw [q] at rk; exact (show False from rk).elim
    | none =>
      obtain ⟨ob, es, ep, hq, h2, h3, h4, _, h5⟩ := dd'
      have rel2 : KT H (kvs ++ [(k, dv)]) (xs ++ [(k, b, u2)]) := Paired.snoc rel ⟨rfl, eb, r2⟩
      refine ⟨dv, _, d_write (ob := .dT (kvs ++ [(k, dv)])) I (by rw [e]; exact True.intro) hs ⟨ob, hq⟩ ⟨by rw [List.length_append, List.length_singleton]; omega, hd, _, rel2.keeps fun c ys ec => ?_, ob, es, ep, hq, h2, h3, h4, h5⟩, r2, q2 q⟩
      rw [upd_ne (ne_of ec e (fun z => nomatch z))]
      exact ec
end

/-! ### small helps -/
theorem same_new {H : Hp} {p : Addr} (h : H p = none) (o : HO) : Same H (upd H p o) := fun b u q => by rw [upd_ne (ne_of_none q h)]; exact q
theorem nd1 (x : Str) : [x].Nodup := by simp
theorem small {n : Nat} (h : n ≤ 16000000) : n ≤ sizeLine := by rw [sizeLine_eq]; omega
end L2

set_option linter.all false
set_option maxRecDepth 100000
/-! Things, apart from any heap. -/
namespace Sb
open PySem

inductive Th where
  | mk (w : Str) (ps : List Th)

mutual
def Th.size : Th → Nat
  | .mk _ ps => sizeL ps + 1
def sizeL : List Th → Nat
  | [] => 0
  | p :: r => p.size + sizeL r
end
mutual
def Th.depth : Th → Nat
  | .mk _ ps => depthL ps + 1
def depthL : List Th → Nat
  | [] => 0
  | p :: r => max p.depth (depthL r)
end
mutual
def Th.inside : Th → List Th
  | .mk w ps => insideL ps ++ [.mk w ps]
def insideL : List Th → List Th
  | [] => []
  | p :: r => p.inside ++ insideL r
end
mutual
def Th.toD : Th → PyData
  | .mk w ps => .tuple (.str w :: toDL ps)
def toDL : List Th → List PyData
  | [] => []
  | p :: r => p.toD :: toDL r
end
mutual
def Th.ok : Th → Bool
  | .mk w ps => PyData.strOk w && okL ps
def okL : List Th → Bool
  | [] => true
  | p :: r => p.ok && okL r
end
/-- a word of at most two hundred signs -/
def wOk (w : Str) : Bool := PyData.strOk w && decide (w.length ≤ 200)
theorem wOk.str {w : Str} (h : wOk w = true) : PyData.strOk w = true := (Bool.and_eq_true_iff.mp h).1
theorem wOk.len {w : Str} (h : wOk w = true) : w.length ≤ 200 := of_decide_eq_true (Bool.and_eq_true_iff.mp h).2
mutual
def Th.short : Th → Bool
  | .mk w ps => decide (w.length ≤ 200) && shortL ps
def shortL : List Th → Bool
  | [] => true
  | p :: r => p.short && shortL r
end
theorem shortL_all : ∀ ts : List Th, shortL ts = ts.all Th.short
  | [] => by simp [shortL]
  | t :: r => by simp [shortL, shortL_all r]
def Th.word : Th → Str
  | .mk w _ => w
def Th.parts : Th → List Th
  | .mk _ ps => ps

theorem toDL_map : ∀ ts : List Th, toDL ts = ts.map Th.toD
  | [] => by simp [toDL]
  | t :: r => by simp [toDL, toDL_map r]
theorem okL_all : ∀ ts : List Th, okL ts = ts.all Th.ok
  | [] => by simp [okL]
  | t :: r => by simp [okL, okL_all r]
mutual
theorem inside_len : ∀ t : Th, t.inside.length = t.size
  | .mk w ps => by simp [Th.inside, Th.size, insideL_len ps]
theorem insideL_len : ∀ ts : List Th, (insideL ts).length = sizeL ts
  | [] => by simp [insideL, sizeL]
  | p :: r => by simp [insideL, sizeL, inside_len p, insideL_len r]
end
theorem size_pos (t : Th) : 1 ≤ t.size := by cases t; simp [Th.size]
theorem depth_pos (t : Th) : 1 ≤ t.depth := by cases t; simp [Th.depth]
theorem sizeL_mem : ∀ {ts : List Th} {t : Th}, t ∈ ts → t.size ≤ sizeL ts
  | p :: r, t, h => by
    rcases List.mem_cons.mp h with rfl | h
    · simp [sizeL]
    · have := sizeL_mem h
      simp only [sizeL]
      omega
theorem depthL_mem : ∀ {ts : List Th} {t : Th}, t ∈ ts → t.depth ≤ depthL ts
  | p :: r, t, h => by
    rcases List.mem_cons.mp h with rfl | h
    · simp only [depthL]; omega
    · have := depthL_mem h
      simp only [depthL]
      omega
theorem len_le_sizeL : ∀ ts : List Th, ts.length ≤ sizeL ts
  | [] => by simp [sizeL]
  | p :: r => by
    have := size_pos p
    have := len_le_sizeL r
    simp only [sizeL, List.length_cons]
    omega
mutual
theorem inside_size : ∀ (t : Th) {s : Th}, s ∈ t.inside → s.size ≤ t.size
  | .mk w ps, s, h => by
    simp only [Th.inside, List.mem_append, List.mem_singleton] at h
    rcases h with h | rfl
    · have := insideL_size ps h
      simp only [Th.size]
      omega
    · exact Nat.le_refl _
theorem insideL_size : ∀ (ts : List Th) {s : Th}, s ∈ insideL ts → s.size ≤ sizeL ts
  | p :: r, s, h => by
    simp only [insideL, List.mem_append] at h
    rcases h with h | h
    · have := inside_size p h
      simp only [sizeL]
      omega
    · have := insideL_size r h
      simp only [sizeL]
      omega
  | [], s, h => by simp [insideL] at h
end
mutual
theorem inside_depth : ∀ (t : Th) {s : Th}, s ∈ t.inside → s.depth ≤ t.depth
  | .mk w ps, s, h => by
    simp only [Th.inside, List.mem_append, List.mem_singleton] at h
    rcases h with h | rfl
    · have := insideL_depth ps h
      simp only [Th.depth]
      omega
    · exact Nat.le_refl _
theorem insideL_depth : ∀ (ts : List Th) {s : Th}, s ∈ insideL ts → s.depth ≤ depthL ts
  | p :: r, s, h => by
    simp only [insideL, List.mem_append] at h
    rcases h with h | h
    · have := inside_depth p h
      simp only [depthL]
      omega
    · have := insideL_depth r h
      simp only [depthL]
      omega
  | [], s, h => by simp [insideL] at h
end
mutual
theorem inside_ok : ∀ (t : Th) {s : Th}, t.ok = true → s ∈ t.inside → s.ok = true
  | .mk w ps, s, o, h => by
    simp only [Th.inside, List.mem_append, List.mem_singleton] at h
    rcases h with h | rfl
    · simp only [Th.ok, Bool.and_eq_true] at o
      exact insideL_ok ps o.2 h
    · exact o
theorem insideL_ok : ∀ (ts : List Th) {s : Th}, okL ts = true → s ∈ insideL ts → s.ok = true
  | p :: r, s, o, h => by
    simp only [insideL, List.mem_append] at h
    simp only [okL, Bool.and_eq_true] at o
    rcases h with h | h
    · exact inside_ok p o.1 h
    · exact insideL_ok r o.2 h
  | [], s, _, h => by simp [insideL] at h
end
theorem self_in (t : Th) : t ∈ t.inside := by cases t; simp [Th.inside]
theorem insideL_flat : ∀ ts : List Th, insideL ts = ts.flatMap Th.inside
  | [] => by simp [insideL]
  | p :: r => by simp [insideL, insideL_flat r]
theorem not_in_parts {w : Str} {ps : List Th} : ¬ Th.mk w ps ∈ insideL ps := fun h => by
  have := insideL_size ps h
  simp only [Th.size] at this
  omega
mutual
theorem inside_trans : ∀ (t : Th) {s r : Th}, s ∈ t.inside → r ∈ s.inside → r ∈ t.inside
  | .mk w ps, s, r, h, k => by
    simp only [Th.inside, List.mem_append, List.mem_singleton] at h ⊢
    rcases h with h | rfl
    · exact .inl (insideL_trans ps h k)
    · simpa [Th.inside] using k
theorem insideL_trans : ∀ (ts : List Th) {s r : Th}, s ∈ insideL ts → r ∈ s.inside → r ∈ insideL ts
  | p :: l, s, r, h, k => by
    simp only [insideL, List.mem_append] at h ⊢
    rcases h with h | h
    · exact .inl (inside_trans p h k)
    · exact .inr (insideL_trans l h k)
  | [], s, r, h, _ => by simp [insideL] at h
end
/-! equality of data is equality of things -/
theorem str_beq {x y : Str} : (x == y) = decide (x = y) := by
  by_cases h : x = y
  · subst h; simp
  · simp [h]
mutual
theorem eqv_iff : ∀ s t : Th, PyData.eqv s.toD t.toD = true ↔ s = t
  | .mk w ps, .mk v qs => by
    simp only [Th.toD, PyData.eqv, PyData.eqvAll, Bool.and_eq_true, Th.mk.injEq]
    rw [eqvL_iff ps qs, str_beq, decide_eq_true_iff]
theorem eqvL_iff : ∀ ss ts : List Th, PyData.eqvAll (toDL ss) (toDL ts) = true ↔ ss = ts
  | [], [] => by simp [toDL, PyData.eqvAll]
  | [], t :: r => by simp [toDL, PyData.eqvAll]
  | s :: r, [] => by simp [toDL, PyData.eqvAll]
  | s :: r, t :: q => by
    simp only [toDL, PyData.eqvAll, Bool.and_eq_true, List.cons.injEq]
    rw [eqv_iff s t, eqvL_iff r q]
end
instance : DecidableEq Th := fun s t => if h : PyData.eqv s.toD t.toD = true then .isTrue ((eqv_iff s t).mp h) else .isFalse fun e => h ((eqv_iff s t).mpr e)
theorem eqv_dec (s t : Th) : PyData.eqv s.toD t.toD = decide (s = t) := by
  by_cases h : s = t
  · rw [decide_eq_true h]; exact (eqv_iff s t).mpr h
  · rw [decide_eq_false h]
    exact Bool.eq_false_iff.mpr fun e => h ((eqv_iff s t).mp e)
mutual
theorem lay_of : ∀ t : Th, t.ok = true → t.toD.canLay0 = true
  | .mk w ps, h => by
    simp only [Th.ok, Bool.and_eq_true] at h
    simp only [Th.toD, PyData.canLay0, PyData.canLayAll0, Bool.and_eq_true]
    exact ⟨h.1, layL_of ps h.2⟩
theorem layL_of : ∀ ts : List Th, okL ts = true → PyData.canLayAll0 (toDL ts) = true
  | [], _ => by simp [toDL, PyData.canLayAll0]
  | t :: r, h => by
    simp only [okL, Bool.and_eq_true] at h
    simp only [toDL, PyData.canLayAll0, Bool.and_eq_true]
    exact ⟨lay_of t h.1, layL_of r h.2⟩
end
mutual
theorem depth_toD : ∀ t : Th, t.toD.depth = t.depth
  | .mk w ps => by
    simp only [Th.toD, PyData.depth, PyData.depthAll, Th.depth, depthL_toD ps]
    omega
theorem depthL_toD : ∀ ts : List Th, PyData.depthAll (toDL ts) = depthL ts
  | [] => by simp [toDL, PyData.depthAll, depthL]
  | t :: r => by simp [toDL, PyData.depthAll, depthL, depth_toD t, depthL_toD r]
end

/-! each once, where it comes first -/
def ddup (acc : List Th) (xs : List Th) : List Th := xs.foldl (fun acc x => if x ∈ acc then acc else acc ++ [x]) acc
theorem ddup_nil (acc : List Th) : ddup acc [] = acc := rfl
theorem ddup_cons (acc : List Th) (x : Th) (r : List Th) : ddup acc (x :: r) = ddup (if x ∈ acc then acc else acc ++ [x]) r := rfl
theorem ddup_append (acc xs ys : List Th) : ddup acc (xs ++ ys) = ddup (ddup acc xs) ys := by
  unfold ddup; rw [List.foldl_append]
theorem ddup_snoc (acc xs : List Th) (y : Th) : ddup acc (xs ++ [y]) = if y ∈ ddup acc xs then ddup acc xs else ddup acc xs ++ [y] := by
  rw [ddup_append]; rfl
theorem mem_ddup : ∀ (xs acc : List Th) (y : Th), y ∈ ddup acc xs ↔ y ∈ acc ∨ y ∈ xs
  | [], acc, y => by simp [ddup_nil]
  | x :: r, acc, y => by
    rw [ddup_cons, mem_ddup r]
    by_cases h : x ∈ acc
    · rw [if_pos h]
      constructor
      · rintro (h1 | h1)
        · exact .inl h1
        · exact .inr (List.mem_cons_of_mem _ h1)
      · rintro (h1 | h1)
        · exact .inl h1
        · rcases List.mem_cons.mp h1 with rfl | h1
          · exact .inl h
          · exact .inr h1
    · rw [if_neg h]
      simp only [List.mem_append, List.mem_cons, List.not_mem_nil, or_false]
      constructor
      · rintro ((h1 | h1) | h1)
        · exact .inl h1
        · exact .inr (.inl h1)
        · exact .inr (.inr h1)
      · rintro (h1 | h1 | h1)
        · exact .inl (.inl h1)
        · exact .inl (.inr h1)
        · exact .inr h1
theorem ddup_same : ∀ (xs acc : List Th), (∀ x ∈ xs, x ∈ acc) → ddup acc xs = acc
  | [], _, _ => rfl
  | x :: r, acc, h => by
    rw [ddup_cons, if_pos (h x List.mem_cons_self)]
    exact ddup_same r acc fun y hy => h y (List.mem_cons_of_mem _ hy)
theorem ddup_len : ∀ (xs acc : List Th), (ddup acc xs).length ≤ acc.length + xs.length
  | [], acc => by simp [ddup_nil]
  | x :: r, acc => by
    rw [ddup_cons]
    have := ddup_len r (if x ∈ acc then acc else acc ++ [x])
    split at this
    · rename_i h
      rw [if_pos h]
      simp only [List.length_cons]
      omega
    · rename_i h
      rw [if_neg h]
      simp only [List.length_append, List.length_cons, List.length_nil] at this ⊢
      omega
/-- closed under parts -/
def Closed (ts : List Th) : Prop := ∀ t ∈ ts, ∀ s ∈ t.inside, s ∈ ts
theorem closed_nil : Closed [] := fun _ h => by simp at h
theorem closed_ddup {ts : List Th} (t : Th) (h : Closed ts) : Closed (ddup ts t.inside) := fun x hx s hs => by
  rw [mem_ddup] at hx ⊢
  rcases hx with hx | hx
  · exact .inl (h x hx s hs)
  · exact .inr (inside_trans t hx hs)
theorem closed_ddupL {ts : List Th} (ps : List Th) (h : Closed ts) : Closed (ddup ts (insideL ps)) := fun x hx s hs => by
  rw [mem_ddup] at hx ⊢
  rcases hx with hx | hx
  · exact .inl (h x hx s hs)
  · exact .inr (insideL_trans ps hx hs)
theorem ddup_in {ts : List Th} {t : Th} (h : Closed ts) (ht : t ∈ ts) : ddup ts t.inside = ts := ddup_same _ _ fun x hx => h t ht x hx
theorem ddup_new {ts : List Th} {w : Str} {ps : List Th} (ht : ¬ Th.mk w ps ∈ ts) : ddup ts (Th.mk w ps).inside = ddup ts (insideL ps) ++ [Th.mk w ps] := by
  have e : (Th.mk w ps).inside = insideL ps ++ [Th.mk w ps] := by simp [Th.inside]
  rw [e, ddup_snoc, if_neg]
  rw [mem_ddup]
  rintro (h | h)
  · exact ht h
  · exact not_in_parts h
theorem ddup_prefix : ∀ (xs acc : List Th), ∃ m, ddup acc xs = acc ++ m
  | [], acc => ⟨[], by simp [ddup_nil]⟩
  | x :: r, acc => by
    rw [ddup_cons]
    split
    · exact ddup_prefix r acc
    · obtain ⟨m, e⟩ := ddup_prefix r (acc ++ [x])
      exact ⟨x :: m, by rw [e]; simp⟩
def topWords (t : Th) : List Str := t.word :: t.parts.map Th.word
end Sb

set_option Elab.async false
set_option linter.all false
set_option maxRecDepth 100000
/-! Things over the heap, and what the laws' own defs promise. -/
namespace L2
open PySem PySem.Spec PyProof.Rows
/-- a comprehension over reversed(t) -/
theorem comp_rev {K : PySem.W.Frag} {a p : Addr} {xs : List V} {g : TG} {te : TE} {Q : Hp → Prop} {σ0 : St} {H0 : Hp} (hxs : xs.length ≤ sizeLine) (Pv : Nat → List V → St → Hp → Prop) (h0 : Pv 0 [] σ0 (upd H0 p (.lst [])))
    (hl : ∀ i ys σ H, i ≤ xs.length → Pv i ys σ H → SqT K H a xs)
    (hs : ∀ i x ys σ H, xs.reverse[i]? = some x → ys.length = i → Pv i ys σ H → H p = some (.lst ys) → g x σ H fun σ2 H2 => te σ2 H2 fun v H4 => H4 p = some (.lst ys) ∧ Pv (i + 1) (ys ++ [v]) σ2 (upd H4 p (.lst (ys ++ [v]))))
    (hd : ∀ ys σ H, ys.length = xs.length → Pv xs.length ys σ H → H p = some (.lst ys) → Q H) : CompW p (ItR K a xs.length) g tAll te Q σ0 (upd H0 p (.lst [])) := by
  refine ⟨fun i m σ H => m = xs.length - i ∧ i ≤ xs.length ∧ ∃ ys, ys.length = i ∧ Pv i ys σ H ∧ H p = some (.lst ys), ⟨xs.length, by simp, Nat.zero_le _, [], rfl, h0, upd_same⟩, ?_⟩
  rintro i m σ H ⟨rfl, hi, ys, hy, pv, hp⟩
  have q := hl i ys σ H hi pv
  by_cases hlt : i < xs.length
  · refine .inr ⟨⟨xs, q, rfl, hlt⟩, fun v σ' H' => H' p = some (.lst ys) ∧ Pv (i + 1) (ys ++ [v]) σ' (upd H' p (.lst (ys ++ [v]))), fun _ _ => False, fun v σ' H' ⟨e1, e2⟩ => ⟨ys, e1, by omega, xs.length - (i + 1), by omega, rfl, hlt, ys ++ [v], by simp [hy], e2, upd_same⟩, fun _ _ z => z.elim, fun x H' y => ?_⟩
    obtain ⟨e, y⟩ := y
    subst e
    exact hs i x ys σ _ (by rw [List.getElem?_reverse hlt]; exact y xs q) hy pv hp
  · have e : i = xs.length := by omega
    subst e
    exact .inl ⟨rfl, hd ys σ H hy pv hp⟩
theorem cut1 (x : V) (vs : List V) : cutV (x :: vs) (some 1) none = vs := by
  have e : HT.sIx (x :: vs).length 0 (some 1) = 1 := by
    have q := HT.sIx_nat (x :: vs).length 0 1
    rw [List.length_cons] at q ⊢
    refine q.trans ?_
    omega
  unfold cutV
  rw [e, HT.sIx_none]
  simp
theorem nowhole1 (x : V) (vs : List V) : ¬ (HT.sIx (x :: vs).length 0 (some 1) = 0 ∧ HT.sIx (x :: vs).length (x :: vs).length none = (x :: vs).length) := by
  have e : HT.sIx (x :: vs).length 0 (some 1) = 1 := by
    have q := HT.sIx_nat (x :: vs).length 0 1
    rw [List.length_cons] at q ⊢
    refine q.trans ?_
    omega
  rw [e]
  rintro ⟨h, _⟩
  exact absurd h (by decide)
end L2
namespace Sb
open PySem PySem.Spec PyProof.Rows L2

mutual
/-- a thing stands there: a tuple of its word and its parts -/
inductive IsTh (H : Hp) : V → Th → Prop
  | mk {a : Addr} {w : Str} {vs : List V} {ps : List Th} : H a = some (.tup (.str w :: vs)) → AreTh H vs ps → IsTh H (.ref a) (.mk w ps)
inductive AreTh (H : Hp) : List V → List Th → Prop
  | nil : AreTh H [] []
  | cons {v : V} {vs : List V} {t : Th} {ts : List Th} : IsTh H v t → AreTh H vs ts → AreTh H (v :: vs) (t :: ts)
end
/-- tuples stay -/
def Tups (H H' : Hp) : Prop := ∀ b xs, H b = some (.tup xs) → H' b = some (.tup xs)
theorem Tups.of {H H' : Hp} (e : Same H H') : Tups H H' := fun b xs h => e b _ h
theorem Tups.trans {H H1 H2 : Hp} (a : Tups H H1) (b : Tups H1 H2) : Tups H H2 := fun c xs h => b c xs (a c xs h)
theorem tups_upd {H : Hp} {a : Addr} {o : HO} (h : ∀ xs, H a ≠ some (.tup xs)) : Tups H (upd H a o) := fun b xs e => by
  by_cases hb : b = a
  · subst hb; exact absurd e (h xs)
  · rw [upd_ne hb]; exact e
mutual
theorem IsTh.tups {H H' : Hp} (e : Tups H H') : ∀ {v : V} {t : Th}, IsTh H v t → IsTh H' v t
  | _, _, .mk h r => .mk (e _ _ h) (AreTh.tups e r)
theorem AreTh.tups {H H' : Hp} (e : Tups H H') : ∀ {vs : List V} {ts : List Th}, AreTh H vs ts → AreTh H' vs ts
  | _, _, .nil => .nil
  | _, _, .cons h r => .cons (IsTh.tups e h) (AreTh.tups e r)
end
theorem IsTh.same {H H' : Hp} (e : Same H H') {v : V} {t : Th} (h : IsTh H v t) : IsTh H' v t := h.tups (Tups.of e)
theorem AreTh.same {H H' : Hp} (e : Same H H') {vs : List V} {ts : List Th} (h : AreTh H vs ts) : AreTh H' vs ts := h.tups (Tups.of e)
mutual
theorem IsTh.dt {H : Hp} : ∀ {v : V} {t : Th}, IsTh H v t → Dt H v t.toD
  | _, _, .mk (w := w) (ps := ps) h r => by
    have e : (Th.mk w ps).toD = .tuple (.str w :: toDL ps) := by simp [Th.toD]
    rw [e]
    exact .tup h (.cons (.str w) (AreTh.dts r))
theorem AreTh.dts {H : Hp} : ∀ {vs : List V} {ts : List Th}, AreTh H vs ts → Dts H vs (toDL ts)
  | _, _, .nil => by simp only [toDL]; exact .nil
  | _, _, .cons h r => by simp only [toDL]; exact .cons (IsTh.dt h) (AreTh.dts r)
end
theorem IsTh.inv {H : Hp} {v : V} {t : Th} (h : IsTh H v t) : ∃ a w vs ps, v = .ref a ∧ t = .mk w ps ∧ H a = some (.tup (.str w :: vs)) ∧ AreTh H vs ps := by
  cases h with
  | mk h r => exact ⟨_, _, _, _, rfl, rfl, h, r⟩
theorem AreTh.length {H : Hp} : ∀ {vs : List V} {ts : List Th}, AreTh H vs ts → vs.length = ts.length
  | _, _, .nil => rfl
  | _, _, .cons _ t => by rw [List.length_cons, List.length_cons, t.length]
theorem AreTh.append {H : Hp} : ∀ {vs us : List V} {ts ss : List Th}, AreTh H vs ts → AreTh H us ss → AreTh H (vs ++ us) (ts ++ ss)
  | _, _, _, _, .nil, t => t
  | _, _, _, _, .cons h r, t => .cons h (r.append t)
theorem AreTh.one {H : Hp} {v : V} {t : Th} (h : IsTh H v t) : AreTh H [v] [t] := .cons h .nil
theorem AreTh.get {H : Hp} : ∀ {vs : List V} {ts : List Th} {i : Nat} {v : V}, AreTh H vs ts → vs[i]? = some v → ∃ t, ts[i]? = some t ∧ IsTh H v t
  | _, _, _, _, .nil, e => by simp at e
  | _, _, 0, _, .cons h _, e => by
    simp at e
    subst e
    exact ⟨_, rfl, h⟩
  | _, _, i + 1, _, .cons _ t, e => by
    obtain ⟨d, h1, h2⟩ := AreTh.get (i := i) t (by simpa using e)
    exact ⟨d, by simpa using h1, h2⟩
theorem AreTh.at {H : Hp} {vs : List V} {ts : List Th} {i : Nat} {t : Th} (h : AreTh H vs ts) (e : ts[i]? = some t) : ∃ v, vs[i]? = some v ∧ IsTh H v t := by
  have hi : i < ts.length := (List.getElem?_eq_some_iff.mp e).1
  have hv : i < vs.length := by rw [h.length]; exact hi
  obtain ⟨t', h1, h2⟩ := h.get (List.getElem?_eq_getElem hv)
  rw [e] at h1
  cases h1
  exact ⟨_, List.getElem?_eq_getElem hv, h2⟩
theorem AreTh.drop {H : Hp} : ∀ {vs : List V} {ts : List Th} (n : Nat), AreTh H vs ts → AreTh H (vs.drop n) (ts.drop n)
  | _, _, 0, h => h
  | _, _, _ + 1, .nil => .nil
  | _, _, n + 1, .cons _ t => AreTh.drop n t
theorem AreTh.take {H : Hp} : ∀ {vs : List V} {ts : List Th} (n : Nat), AreTh H vs ts → AreTh H (vs.take n) (ts.take n)
  | _, _, 0, _ => .nil
  | _, _, _ + 1, .nil => .nil
  | _, _, n + 1, .cons h t => .cons h (AreTh.take n t)
theorem AreTh.dt {H : Hp} {a : Addr} {vs : List V} {ts : List Th} (h : AreTh H vs ts) (e : H a = some (.lst vs)) : Dt H (.ref a) (.list (toDL ts)) := .lst e h.dts

/-! ### sums over data -/
mutual
def nodes : PyData → Nat
  | .none => 1 | .bool _ => 1 | .int _ => 1 | .str _ => 1
  | .list xs => nodesL xs + 1
  | .tuple xs => nodesL xs + 1
  | .dict _ => 1
def nodesL : List PyData → Nat
  | [] => 0
  | x :: r => nodes x + nodesL r
end
theorem nodes_pos (d : PyData) : 1 ≤ nodes d := by cases d <;> simp [nodes]
theorem nodesL_append : ∀ xs ys : List PyData, nodesL (xs ++ ys) = nodesL xs + nodesL ys
  | [], ys => by simp [nodesL]
  | x :: r, ys => by simp only [List.cons_append, nodesL, nodesL_append r ys]; omega
theorem len_le_nodesL : ∀ xs : List PyData, xs.length ≤ nodesL xs
  | [] => by simp [nodesL]
  | x :: r => by
    have := nodes_pos x
    have := len_le_nodesL r
    simp only [nodesL, List.length_cons]
    omega
mutual
theorem nodes_th : ∀ t : Th, nodes t.toD = 2 * t.size
  | .mk w ps => by simp only [Th.toD, nodes, nodesL, Th.size, nodes_ths ps]; omega
theorem nodes_ths : ∀ ts : List Th, nodesL (toDL ts) = 2 * sizeL ts
  | [] => by simp [toDL, nodesL, sizeL]
  | t :: r => by simp only [toDL, nodesL, sizeL, nodes_th t, nodes_ths r]; omega
end
theorem sizeL_bound : ∀ (ts : List Th) (n : Nat), (∀ t ∈ ts, t.size ≤ n) → sizeL ts ≤ ts.length * n
  | [], n, _ => by simp [sizeL]
  | t :: r, n, h => by
    have h1 := h t List.mem_cons_self
    have h2 := sizeL_bound r n fun s hs => h s (List.mem_cons_of_mem _ hs)
    simp only [sizeL, List.length_cons]
    rw [Nat.add_mul]
    omega
theorem depthL_bound : ∀ (ts : List Th) (n : Nat), (∀ t ∈ ts, t.depth ≤ n) → depthL ts ≤ n
  | [], n, _ => by simp [depthL]
  | t :: r, n, h => by
    have h1 := h t List.mem_cons_self
    have h2 := depthL_bound r n fun s hs => h s (List.mem_cons_of_mem _ hs)
    simp only [depthL]
    omega

/-! ### what is promised -/
/-- the things of a script: at most sixteen deep, not many in each -/
structure Drawn (ts : List Th) (m : Nat) : Prop where
  len : ts.length = 3 + m
  ok : ∀ t ∈ ts, t.ok = true
  dep : ∀ (j : Nat) t, ts[j]? = some t → t.depth ≤ j + 1
  one : ∀ (j : Nat) t, ts[j]? = some t → j ≤ 2 → t.size ≤ 1
  two : ∀ (j : Nat) t, ts[j]? = some t → j ≤ 3 → t.size ≤ 4
  tri : ∀ (j : Nat) t, ts[j]? = some t → j ≤ 4 → t.size ≤ 10
  any : ∀ (j : Nat) t, ts[j]? = some t → t.size ≤ 12 * j + 1
  sh : ∀ t ∈ ts, t.short = true
  tab : ts[1]? = some (.mk "tab" [])
  cl : ∀ t ∈ ts, ∀ p ∈ t.parts, p ∈ ts
def spDrawn (K : PySem.W.Frag) : Sp := fun vs H Q _ => ∃ (a : Addr) (ns : List Int), vs = [.ref a] ∧ SqL K H a (ns.map V.int) ∧ ns.length ≤ 63 ∧
  ∀ (r : Addr) (us : List V) (ts : List Th) (H' : Hp), Same H H' → H r = none → H' r = some (.lst us) → AreTh H' us ts → Drawn ts ns.length → Q (.ref r) H'
def spWord : Sp := fun vs H Q _ => ∃ (n : Int), vs = [.int n] ∧ ∀ (x : Str), wOk x = true → Q (.str x) H
def spInside : Sp := fun vs H Q _ => ∃ (v : V) (t : Th), vs = [v] ∧ IsTh H v t ∧ t.ok = true ∧ t.size ≤ 1000000 ∧ t.depth ≤ 50 ∧
  ∀ (r : Addr) (us : List V) (H' : Hp), Same H H' → H r = none → H' r = some (.lst us) → AreTh H' us t.inside → Q (.ref r) H'
def spSo : Sp := fun vs H Q _ => ∃ (x y : V) (d : PyData), vs = [x, y] ∧ Dt H x d ∧ Dt H y d ∧ d.canLay0 = true ∧ nodes d ≤ 1000000 ∧ d.depth ≤ 60 ∧
  ∀ (H' : Hp), Same H H' → Q (.bl true) H'
def spLaw (K : PySem.W.Frag) : Sp := fun vs H Q _ => ∃ (a : Addr) (ns : List Int), vs = [.ref a] ∧ SqL K H a (ns.map V.int) ∧ ns.length ≤ 63 ∧ ∀ H', Q (.bl true) H'
/-- parts_of, n calls deep -/
def spParts (n : Nat) : Sp := fun vs H Q _ => ∃ (v : V) (t : Th), vs = [v] ∧ IsTh H v t ∧ t.size ≤ 1000000 ∧ t.depth ≤ n ∧
  ∀ (r : Addr) (us : List V) (H' : Hp), Same H H' → H r = none → H' r = some (.lst us) → AreTh H' us t.inside → Q (.ref r) H'
end Sb

set_option Elab.async false
set_option linter.all false
set_option maxRecDepth 100000
/-! Keys of a dict: tuples of ints, texts and such tuples, at most eight deep. -/
namespace L2
open PySem PySem.Spec PyProof.Rows

inductive KD where
  | int (i : Int)
  | str (x : Str)
  | tup (xs : List KD)
mutual
def KD.toD : KD → PyData
  | .int i => .int i
  | .str x => .str x
  | .tup xs => .tuple (kdL xs)
def kdL : List KD → List PyData
  | [] => []
  | x :: r => x.toD :: kdL r
end
mutual
def KD.depth : KD → Nat
  | .int _ => 0
  | .str _ => 0
  | .tup xs => kdDep xs + 1
def kdDep : List KD → Nat
  | [] => 0
  | x :: r => max x.depth (kdDep r)
end
mutual
def KD.hash (w : World) : KD → Int
  | .int i => hashInt i
  | .str x => hashStr w x
  | .tup xs => reduceHash (Builtin.Tuple.tupleHashOf (kdHash w xs))
def kdHash (w : World) : List KD → List Int
  | [] => []
  | x :: r => x.hash w :: kdHash w r
end
mutual
def KD.draws : KD → Nat
  | .int _ => 1
  | .str _ => 1
  | .tup xs => kdDraws xs + 1
def kdDraws : List KD → Nat
  | [] => 0
  | x :: r => x.draws + kdDraws r
end
theorem kdL_map : ∀ xs : List KD, kdL xs = xs.map KD.toD
  | [] => by simp [kdL]
  | x :: r => by simp [kdL, kdL_map r]
theorem kdHash_map (w : World) : ∀ xs : List KD, kdHash w xs = xs.map (KD.hash w)
  | [] => by simp [kdHash]
  | x :: r => by simp [kdHash, kdHash_map w r]
theorem kdDraws_append : ∀ xs ys : List KD, kdDraws (xs ++ ys) = kdDraws xs + kdDraws ys
  | [], ys => by simp [kdDraws]
  | x :: r, ys => by simp only [List.cons_append, kdDraws, kdDraws_append r ys]; omega
theorem kdDep_mem : ∀ {xs : List KD} {x : KD}, x ∈ xs → x.depth ≤ kdDep xs
  | y :: r, x, h => by
    simp only [kdDep]
    rcases List.mem_cons.mp h with rfl | h
    · omega
    · have := kdDep_mem h
      omega
mutual
theorem kd_eqv : ∀ a b : KD, PyData.eqv a.toD b.toD = true ↔ a = b
  | .int i, .int j => by simp [KD.toD, PyData.eqv]
  | .int i, .str y => by simp [KD.toD, PyData.eqv]
  | .int i, .tup ys => by simp [KD.toD, PyData.eqv]
  | .str x, .int j => by simp [KD.toD, PyData.eqv]
  | .str x, .str y => by simp [KD.toD, PyData.eqv]
  | .str x, .tup ys => by simp [KD.toD, PyData.eqv]
  | .tup xs, .int j => by simp [KD.toD, PyData.eqv]
  | .tup xs, .str y => by simp [KD.toD, PyData.eqv]
  | .tup xs, .tup ys => by simp only [KD.toD, PyData.eqv, KD.tup.injEq]; exact kdL_eqv xs ys
theorem kdL_eqv : ∀ xs ys : List KD, PyData.eqvAll (kdL xs) (kdL ys) = true ↔ xs = ys
  | [], [] => by simp [kdL, PyData.eqvAll]
  | [], _ :: _ => by simp [kdL, PyData.eqvAll]
  | _ :: _, [] => by simp [kdL, PyData.eqvAll]
  | x :: r, y :: q => by
    simp only [kdL, PyData.eqvAll, Bool.and_eq_true, List.cons.injEq]
    rw [kd_eqv x y, kdL_eqv r q]
end
instance : DecidableEq KD := fun a b => if h : PyData.eqv a.toD b.toD = true then .isTrue ((kd_eqv a b).mp h) else .isFalse fun e => h ((kd_eqv a b).mpr e)
theorem kd_eqv_dec (a b : KD) : PyData.eqv a.toD b.toD = decide (a = b) := by
  by_cases h : a = b
  · rw [decide_eq_true h]; exact (kd_eqv a b).mpr h
  · rw [decide_eq_false h]
    exact Bool.eq_false_iff.mpr fun e => h ((kd_eqv a b).mp e)
theorem kd_inj {a b : KD} (h : a.toD = b.toD) : a = b := by
  have e : PyData.eqv a.toD a.toD = true := (kd_eqv a a).mpr rfl
  rw [h] at e
  exact ((kd_eqv b a).mp (by rw [h]; exact e)).symm
mutual
theorem kd_depth : ∀ a : KD, a.toD.depth = a.depth
  | .int _ => by simp [KD.toD, PyData.depth, KD.depth]
  | .str _ => by simp [KD.toD, PyData.depth, KD.depth]
  | .tup xs => by simp only [KD.toD, PyData.depth, KD.depth, kdL_depth xs]
theorem kdL_depth : ∀ xs : List KD, PyData.depthAll (kdL xs) = kdDep xs
  | [] => by simp [kdL, PyData.depthAll, kdDep]
  | x :: r => by simp only [kdL, PyData.depthAll, kdDep, kd_depth x, kdL_depth r]
end

/-! ### reading -/
theorem reads_tup {h : Heap} {v : Value} {xs : List PyData} {as : List Addr} (r : Reads h v (.tuple xs) as) : ∃ a o vs n, v = .ref a ∧ h.get? a = some o ∧ o.cls = .type "tuple" ∧ o.data = .seq vs n ∧ ReadsAll h vs.toList xs as := by
  cases r with
  | tuple h1 h2 h3 h4 => exact ⟨_, _, _, _, rfl, h1, h2, h3, h4⟩
mutual
/-- one object, a dict, has changed: what reads no dict is as it was -/
theorem reads_but {h h' : Heap} {d : Addr} {o : Obj} {es : Array DictEntry} {ep : Nat} (ho : h.get? d = some o) (hd : o.data = .dict es ep) (hs : Heap.SameBut d h h') : ∀ {v : Value} {x : PyData} {as : List Addr}, Reads h v x as → x.canLay0 = true → Reads h' v x as
  | _, _, _, .none, _ => .none
  | _, _, _, .bool b, _ => .bool b
  | _, _, _, .int i t, _ => .int i t
  | _, _, _, .str x t, _ => .str x t
  | _, _, _, .list (a := a) h1 h2 h3 h4, hl => by
    simp only [PyData.canLay0] at hl
    refine .list ((hs.2 a ?_).trans h1) h2 h3 (readsAll_but ho hd hs h4 hl)
    rintro rfl
    rw [ho] at h1; cases h1; rw [hd] at h3; cases h3
  | _, _, _, .tuple (a := a) h1 h2 h3 h4, hl => by
    simp only [PyData.canLay0] at hl
    refine .tuple ((hs.2 a ?_).trans h1) h2 h3 (readsAll_but ho hd hs h4 hl)
    rintro rfl
    rw [ho] at h1; cases h1; rw [hd] at h3; cases h3
  | _, _, _, .dict _ _ _ _ _, hl => by simp [PyData.canLay0] at hl
theorem readsAll_but {h h' : Heap} {d : Addr} {o : Obj} {es : Array DictEntry} {ep : Nat} (ho : h.get? d = some o) (hd : o.data = .dict es ep) (hs : Heap.SameBut d h h') : ∀ {vs : List Value} {xs : List PyData} {as : List Addr}, ReadsAll h vs xs as → PyData.canLayAll0 xs = true → ReadsAll h' vs xs as
  | _, _, _, .nil, _ => .nil
  | _, _, _, .cons h1 h2, hl => by
    simp only [PyData.canLayAll0, Bool.and_eq_true] at hl
    exact .cons (reads_but ho hd hs h1 hl.1) (readsAll_but ho hd hs h2 hl.2)
end
mutual
/-- what a value reads as is one thing -/
theorem reads_one {h : Heap} : ∀ (a b : KD) {v : Value} {as bs : List Addr}, Reads h v a.toD as → Reads h v b.toD bs → a = b
  | .int i, .int j, _, _, _, r, q => by simp only [KD.toD] at r q; cases r; cases q; rfl
  | .int i, .str y, _, _, _, r, q => by simp only [KD.toD] at r q; cases r; cases q
  | .int i, .tup ys, _, _, _, r, q => by simp only [KD.toD] at r q; cases r; cases q
  | .str x, .int j, _, _, _, r, q => by simp only [KD.toD] at r q; cases r; cases q
  | .str x, .str y, _, _, _, r, q => by simp only [KD.toD] at r q; cases r; cases q; rfl
  | .str x, .tup ys, _, _, _, r, q => by simp only [KD.toD] at r q; cases r; cases q
  | .tup xs, .int j, _, _, _, r, q => by simp only [KD.toD] at r q; cases q; cases r
  | .tup xs, .str y, _, _, _, r, q => by simp only [KD.toD] at r q; cases q; cases r
  | .tup xs, .tup ys, _, _, _, r, q => by
    simp only [KD.toD] at r q
    obtain ⟨a, o, vs, n, rfl, h1, h2, h3, h4⟩ := reads_tup r
    obtain ⟨a', o', vs', n', e, k1, k2, k3, k4⟩ := reads_tup q
    cases e
    rw [h1] at k1; cases k1
    rw [h3] at k3; cases k3
    rw [readsAll_one xs ys h4 k4]
theorem readsAll_one {h : Heap} : ∀ (xs ys : List KD) {vs : List Value} {as bs : List Addr}, ReadsAll h vs (kdL xs) as → ReadsAll h vs (kdL ys) bs → xs = ys
  | [], [], _, _, _, _, _ => rfl
  | [], y :: q, _, _, _, r, t => by simp only [kdL] at r t; cases r; cases t
  | x :: r', [], _, _, _, r, t => by simp only [kdL] at r t; cases t; cases r
  | x :: r', y :: q, _, _, _, r, t => by
    simp only [kdL] at r t
    cases r with
    | cons h1 h2 =>
      cases t with
      | cons k1 k2 => rw [reads_one x y h1 k1, readsAll_one r' q h2 k2]
end

/-! ### the hash -/
section
variable {prog : Program} {w : World}
mutual
theorem kd_pyHash : ∀ (k : KD) {A : Around} {E : Value → Shared → Prop} {s : Shared} {v : Value} {as : List Addr} {Q : Int → Shared → Prop}, A.units + k.depth < cLine → Reads s.heap v k.toD as → Q (k.hash w) { s with toks := s.toks + k.draws } →
    wpAny (model prog w) A (pyHash v) Q E s
  | .int i, A, E, s, v, as, Q, _, r, h => by
    simp only [KD.toD] at r
    cases r
    simp only [KD.hash, KD.draws] at h
    exact wpAny_pyHash_int h
  | .str x, A, E, s, v, as, Q, _, r, h => by
    simp only [KD.toD] at r
    cases r
    simp only [KD.hash, KD.draws] at h
    exact wpAny_pyHash_str h
  | .tup xs, A, E, s, v, as, Q, hu, r, h => by
    simp only [KD.toD] at r
    simp only [KD.depth] at hu
    simp only [KD.hash, KD.draws] at h
    obtain ⟨a, o, items, n, rfl, ho, hc, hd, hi⟩ := reads_tup r
    have hT : s.TypeIs (.ref a) "tuple" := ⟨o, ho, hc⟩
    have each := fun (k : KD) (hk : k ∈ xs) => @kd_pyHashL xs k hk
    unfold pyHash
    first | unfold pyHashByItsType | skip
    first | refine wpAny_bind (wpAny_cRoomFor_or (.inr (by omega)) ?_) | skip
    refine wpAny_bind (wpAny_specialOf hT F.slot_tuple_hash.lookup ?_)
    show wpAny _ _ (if (some (Value.builtin "tuple.__hash__") == some Value.none) = true then _ else _) Q E s
    rw [if_neg (by rw [beq_builtin_none]; exact Bool.false_ne_true)]
    refine wpAny_bind (wpAny_specialOf hT F.slot_tuple_hash.lookup ?_)
    show wpAny _ _ (callSpecialIfBoundUnlessNone? (.ref a) "__hash__" _ >>= _) Q E s
    refine wpAny_bind (wpAny_callSpecialIfBoundUnlessNone?_slot hT F.slot_tuple_hash (wpAny_call_entry F.slot_tuple_hash hT F.entry_tuple_hash ?_ (F.args_tuple_hash_1 _)))
    show wpAny _ _ (Builtin.Tuple.tupleItemsOf (.ref a) >>= _) _ _ s
    refine wpAny_bind (wpAny_tupleItemsOf ho hd ?_)
    refine wpAny_bind ?_
    rw [← Array.forIn_toList]
    refine wpAny_forIn_list _
      (fun rest (b : Array Int) s' => ∃ done left as', xs = done ++ left ∧ ReadsAll s.heap rest (kdL left) as' ∧ b.toList = kdHash w done ∧ s' = { s with toks := s.toks + kdDraws done })
      _ ?_ ?_ _ _ ⟨[], xs, as, rfl, hi, rfl, rfl⟩
    · rintro x rest b s' ⟨done, left, as', rfl, hl, hb, rfl⟩
      cases left with
      | nil => simp only [kdL] at hl; cases hl
      | cons k ks' =>
        simp only [kdL] at hl
        cases hl with
        | cons h1 hl' =>
          have hk := kdDep_mem (xs := done ++ k :: ks') (x := k) (by simp)
          refine wpAny_bind (each k (by simp) (A := A.in1) (s := { s with toks := s.toks + kdDraws done }) (by show A.units + 1 + k.depth < cLine; omega) h1 ?_)
          have e1 : s.toks + kdDraws done + k.draws = s.toks + kdDraws (done ++ [k]) := by rw [kdDraws_append]; simp only [kdDraws]; omega
          have fin : ∃ done' left' as'', done ++ k :: ks' = done' ++ left' ∧ ReadsAll s.heap rest (kdL left') as'' ∧ (b.push (k.hash w)).toList = kdHash w done' ∧ ({ s with toks := s.toks + kdDraws done + k.draws } : Shared) = { s with toks := s.toks + kdDraws done' } :=
            ⟨done ++ [k], ks', _, by simp, hl', by simp [hb, kdHash_map], by rw [e1]⟩
          first
            | exact wpAny_pure fin
            | exact wpAny_bind (wpAny_pure (wpAny_pure fin))
    · rintro b s' ⟨done, left, as', rfl, hl, hb, rfl⟩
      cases left with
      | cons k ks' => simp only [kdL] at hl; cases hl
      | nil =>
        rw [List.append_nil] at h
        show wpAny _ _ (retInt (Builtin.Tuple.tupleHashOf b.toList)) _ _ _
        rw [hb]
        refine wpAny_ret_mkInt ?_
        show wpAny _ _ (if (decide (-(2 : Int) ^ 63 ≤ Builtin.Tuple.tupleHashOf (kdHash w done)) && decide (Builtin.Tuple.tupleHashOf (kdHash w done) < 2 ^ 63)) = true then _ else _) Q E _
        unfold reduceHash at h
        by_cases hr : (decide (-(2 : Int) ^ 63 ≤ Builtin.Tuple.tupleHashOf (kdHash w done)) && decide (Builtin.Tuple.tupleHashOf (kdHash w done) < 2 ^ 63)) = true
        · rw [if_pos hr]
          rw [if_pos hr] at h
          exact wpAny_pure (by simpa [Nat.add_assoc] using h)
        · rw [if_neg hr]
          rw [if_neg hr] at h
          exact wpAny_bind (wpAny_rule (wpAny_pure (by simpa [Nat.add_assoc] using h)))
theorem kd_pyHashL : ∀ (xs : List KD) (k : KD), k ∈ xs → ∀ {A : Around} {E : Value → Shared → Prop} {s : Shared} {v : Value} {as : List Addr} {Q : Int → Shared → Prop}, A.units + k.depth < cLine → Reads s.heap v k.toD as → Q (k.hash w) { s with toks := s.toks + k.draws } →
    wpAny (model prog w) A (pyHash v) Q E s
  | [], _, h => by simp at h
  | x :: r, k, h => by
    intro h1 h2 h3
    by_cases e : k = x
    · rw [e] at h1 h2 h3
      exact kd_pyHash x h1 h2 h3
    · exact kd_pyHashL r k ((List.mem_cons.mp h).resolve_left e) h1 h2 h3
end
mutual
theorem kd_quiet : ∀ (k : KD) (n : Nat) {A : Around} {E : Value → Shared → Prop} {s : Shared} {v : Value} {as : List Addr} {Q : Bool → Shared → Prop}, k.depth ≤ n → Reads s.heap v k.toD as → Q true s → wpAny (model prog w) A (eqIsQuiet n v) Q E s
  | .int i, n, A, E, s, v, as, Q, _, r, h => by
    simp only [KD.toD] at r
    cases r
    rw [eqIsQuiet_byValue n rfl]
    exact wpAny_pure h
  | .str x, n, A, E, s, v, as, Q, _, r, h => by
    simp only [KD.toD] at r
    cases r
    rw [eqIsQuiet_byValue n rfl]
    exact wpAny_pure h
  | .tup xs, 0, A, E, s, v, as, Q, hn, r, h => by simp [KD.depth] at hn
  | .tup xs, n + 1, A, E, s, v, as, Q, hn, r, h => by
    simp only [KD.toD] at r
    simp only [KD.depth] at hn
    obtain ⟨a, o, items, m, rfl, ho, hc, hd, hi⟩ := reads_tup r
    have hT : s.TypeIs (.ref a) "tuple" := ⟨o, ho, hc⟩
    have each := fun (k : KD) (hk : k ∈ xs) (n : Nat) => @kd_quietL xs k hk n
    unfold eqIsQuiet
    refine wpAny_bind (wpAny_specialOf hT F.slot_tuple_eq.lookup ?_)
    show wpAny _ _ (isInstance (.ref a) (.type "tuple") >>= _) _ _ s
    refine wpAny_bind (wpAny_isInstance hT isSubtype_tuple_tuple ?_)
    simp only [Bool.not_true, Bool.false_eq_true, if_false]
    refine wpAny_bind (wpAny_seqItems ho hd ?_)
    refine wpAny_bind ?_
    show wpAny _ _ (forIn items _ _) _ _ s
    rw [← Array.forIn_toList]
    refine wpAny_forIn_list _ (fun rest r s' => r.1 = none ∧ s' = s ∧ ∃ left as', (∀ k ∈ left, k ∈ xs) ∧ ReadsAll s.heap rest (kdL left) as') _ ?_ ?_ _ _ ⟨rfl, rfl, xs, as, fun _ z => z, hi⟩
    · rintro v rest r s' ⟨hr, rfl, left, as', hsub, hl⟩
      cases left with
      | nil => simp only [kdL] at hl; cases hl
      | cons k ks' =>
        simp only [kdL] at hl
        cases hl with
        | cons h1 hl' =>
          have hk := kdDep_mem (hsub k (by simp))
          refine wpAny_bind (each k (hsub k (by simp)) n (by omega) h1 ?_)
          simp only [Bool.not_true, Bool.false_eq_true, if_false]
          exact wpAny_pure ⟨rfl, rfl, ks', _, fun z hz => hsub z (List.mem_cons_of_mem _ hz), hl'⟩
    · rintro ⟨r1, r2⟩ s' ⟨hr, rfl, _⟩
      simp only at hr
      subst hr
      exact wpAny_pure h
theorem kd_quietL : ∀ (xs : List KD) (k : KD), k ∈ xs → ∀ (n : Nat) {A : Around} {E : Value → Shared → Prop} {s : Shared} {v : Value} {as : List Addr} {Q : Bool → Shared → Prop}, k.depth ≤ n → Reads s.heap v k.toD as → Q true s → wpAny (model prog w) A (eqIsQuiet n v) Q E s
  | [], _, h => by simp at h
  | x :: r, k, h => by
    intro n _ _ _ _ _ _ h1 h2 h3
    by_cases e : k = x
    · rw [e] at h1 h2
      exact kd_quiet x n h1 h2 h3
    · exact kd_quietL r k ((List.mem_cons.mp h).resolve_left e) n h1 h2 h3
end
def KD.isT : KD → Bool
  | .tup _ => true
  | _ => false
/-- THE KIND: keys that are tuples, at most eight deep -/
def kdKind (prog : Program) (w : World) : HeapKind prog w KD where
  is := fun h k a => (∃ as, Reads h (.ref a) k.toD as) ∧ k.toD.canLay0 = true ∧ k.depth ≤ 8
  hash := KD.hash w
  draws := KD.draws
  room := fun A => A.units + 10 < cLine
  inj := fun ⟨⟨_, h1⟩, _⟩ ⟨⟨_, h2⟩, _⟩ => reads_one _ _ h1 h2
  keeps := fun ⟨⟨as, h1⟩, h2, h3⟩ ho hd hs => ⟨⟨as, reads_but ho hd hs h1 h2⟩, h2, h3⟩
  pyHash := fun {A E s k a Q} hu ⟨⟨as, h1⟩, _, h3⟩ h => kd_pyHash k (by omega) h1 h
  eqBool := fun {A E s x y a b Q} hu ⟨⟨as, h1⟩, h2, h3⟩ ⟨⟨bs, k1⟩, k2, k3⟩ h => PySem.SeqAt.eqAt_reads x.toD y.toD A s _ _ _ _ h1 k1 h2 k2 (by rw [kd_depth, kd_depth]; omega) prog w E Q (by rw [kd_eqv_dec]; exact h)
  quiet := fun {A E s k a Q} ⟨⟨as, h1⟩, _, h3⟩ h => kd_quiet k 8 h3 h1 h
end
end L2

set_option Elab.async false
set_option linter.all false
set_option maxRecDepth 100000
/-! Dicts with keys of any such kind: the raw object first (len, list), then by keys. -/
namespace PySem
def Heap.RawD (h : Heap) (d : Addr) (es : Array DictEntry) (ep : Nat) : Prop := ∃ o, h.get? d = some o ∧ o.ExactDict ∧ o.data = .dict es ep
section
variable {prog : Program} {w : World} {A : Around} {E : Value → Shared → Prop} {s : Shared} {d : Addr} {es : Array DictEntry} {ep : Nat}
theorem Heap.RawD.typeIs (x : s.heap.RawD d es ep) : s.TypeIs (.ref d) "dict" := let ⟨o, ho, hc, _⟩ := x; ⟨o, ho, hc.1⟩
theorem Heap.RawD.at {h h' : Heap} (x : h.RawD d es ep) (e : ∀ o, h.get? d = some o → h'.get? d = some o) : h'.RawD d es ep := let ⟨o, ho, r⟩ := x; ⟨o, e _ ho, r⟩
theorem Heap.RawD.lt {h : Heap} (x : h.RawD d es ep) : d < h.objs.size := let ⟨_, ho, _⟩ := x; Heap.lt_size ho
theorem rawd_len {Q : Value → Shared → Prop} (hd : (d == sysModules) = false) (hm : s.heap.RawD d es ep) (hfit : (es.size : Int) < 2 ^ 63)
    (h : Q (.int es.size (s.toks + 1)) { s with toks := s.toks + 1 + 1 }) : wpAny (model prog w) A (call (.builtin "len") [.ref d]) Q E s := by
  obtain ⟨o, ho, hc, hdat⟩ := id hm
  refine Calls.call_function_entry kind_len plain_len entry_len (args_len1 _) ?_
  unfold Builtin.«len»
  refine wpAny_bind (m := oneArg "len" _) (wpAny_pure ?_)
  refine wpAny_bind (m := callSpecial? (.ref d) (Str.ofString "__len__")) (wpAny_callSpecial?_slot (name := Str.ofString "__len__") hm.typeIs F.slot_dict_len
    (wpAny_call_entry F.slot_dict_len hm.typeIs F.entry_dict_len ?_ (F.args_dict_len_1 _)))
  show wpAny _ _ (dictSize d >>= _) _ _ s
  unfold dictSize
  refine wpAny_bind (wpAny_bind (wpAny_dictEntries ho hdat (wpAny_pure ?_)))
  show wpAny _ _ (Builtin.Dict.pendingCount d >>= _) _ _ s
  refine wpAny_bind (wpAny_pendingCount_other hd ?_)
  refine wpAny_ret_mkInt ?_
  rw [Nat.add_zero]
  show wpAny _ _ _ _ _ { s with toks := s.toks + 1 }
  refine wpAny_bind (wpAny_holding (wpAny_pure ?_))
  refine wpAny_bind (wpAny_letGo ?_)
  show wpAny _ _ (if ((es.size : Nat) : Int) < 0 then _ else _) _ _ _
  rw [if_neg (by omega)]
  show wpAny _ _ (if ((es.size : Nat) : Int) ≥ 2 ^ 63 then _ else _) _ _ _
  rw [if_neg (by omega)]
  exact wpAny_bind (wpAny_mkInt (wpAny_pure ⟨_, rfl, h⟩))
theorem rawd_iter {Q : Value → Shared → Prop} (hd : (d == sysModules) = false) (hm : s.heap.RawD d es ep)
    (hQ : Q (.ref s.heap.objs.size) { s with heap := s.heap.push { cls := .type "dict_keyiterator", data := .fields #[.ref d, .int 0 0, .int es.size 0, .int ep 0] } }) :
    wpAny (model prog w) A (pyIter (.ref d)) Q E s := by
  obtain ⟨o, ho, hc, hdat⟩ := id hm
  have hT := hm.typeIs
  refine wpAny_pyIter_slot hT F.slot_dict_iter (wpAny_call_entry F.slot_dict_iter hT F.entry_dict_iter ?_ (F.args_dict_iter_1 _))
  unfold Builtin.«dict.__iter__»
  refine wpAny_bind ?_
  unfold Builtin.Dict.dictSlotNone
  refine wpAny_bind (wpAny_notOrdered_dict hT ?_)
  show wpAny _ _ (pure (Value.ref d)) _ _ s
  refine wpAny_pure ?_
  show wpAny _ _ (Builtin.Dict.showsAll d >>= _) _ _ s
  unfold Builtin.Dict.showsAll
  rw [if_neg (by rw [hd]; exact Bool.false_ne_true)]
  refine wpAny_bind (wpAny_pure ?_)
  refine wpAny_bind (wpAny_dictEntries ho hdat ?_)
  refine wpAny_bind (wpAny_dictEpoch ho hdat ?_)
  refine wpAny_bind (wpAny_newObj_type (wpAny_pure ⟨_, rfl, "dict_keyiterator", _, ⟨_, Heap.get?_push_size _ rfl, rfl⟩, F.slot_dict_keyiterator_next.lookup, ?_⟩))
  simpa [rawInt] using hQ
theorem rawd_next {it : Addr} {i : Nat} {e : DictEntry} {Q : Option Value → Shared → Prop} (hit : s.heap.IsKeyIter it d i es.size ep) (hm : s.heap.RawD d es ep) (hx : es[i]? = some e)
    (hQ : ∀ h', h'.IsKeyIter it d (i + 1) es.size ep → Heap.SameBut it s.heap h' → Q (some e.key) { s with heap := h' }) :
    wpAny (model prog w) A (pyNext (.ref it)) Q E s := by
  obtain ⟨o, ho, hc, hd⟩ := id hit
  obtain ⟨od, hod, hcd, hdd⟩ := id hm
  unfold pyNext
  refine wpAny_bind (wpAny_attempt (wpAny_callSpecial?_slot (name := Str.ofString "__next__") hit.typeIs F.slot_dict_keyiterator_next
    (wpAny_call_entry F.slot_dict_keyiterator_next hit.typeIs F.entry_dict_keyiterator_next ?_ (F.args_dict_keyiterator_next_1 _))))
  refine wpAny_bind (wpAny_pure ?_)
  refine wpAny_bind ?_
  refine wpAny_bind ?_
  first | refine wpAny_bind (wpAny_typeNameOfWhole_keyiter hit.typeIs (wpAny_pure ?_)) | refine wpAny_bind (wpAny_typeNameOf_keyiter hit.typeIs (wpAny_pure ?_))
  refine wpAny_bind (wpAny_fieldsOf ho hd ?_)
  have hown : Builtin.Dict_items.ownsTuple "dict_keyiterator" = false := by decide
  simp only [hown, Bool.false_eq_true, if_false]
  show wpAny _ _ (if (Value.ref d == Value.none) = true then _ else _) _ _ s
  rw [if_neg (show ¬ ((Value.ref d == Value.none) = true) from Bool.false_ne_true)]
  refine wpAny_bind (wpAny_pure ?_)
  refine wpAny_bind (wpAny_dictEntries hod hdd ?_)
  rw [if_neg (by simp)]
  refine wpAny_bind (wpAny_pure ?_)
  refine wpAny_bind (wpAny_dictEpoch hod hdd ?_)
  rw [if_neg (by simp)]
  refine wpAny_pure ?_
  have hlt' : i < es.size := by
    rcases Nat.lt_or_ge i es.size with h | h
    · exact h
    · rw [Array.getElem?_eq_none h] at hx; cases hx
  have he : es[i] = e := by rw [Array.getElem?_eq_getElem hlt'] at hx; exact Option.some.inj hx
  simp only [show ¬ ((i : Int) < 0) from by omega, if_false, Int.toNat_natCast, Array.getElem?_eq_getElem hlt']
  refine wpAny_bind ?_
  first | refine wpAny_bind (wpAny_typeNameOfWhole_keyiter hit.typeIs (wpAny_pure ?_)) | refine wpAny_bind (wpAny_typeNameOf_keyiter hit.typeIs (wpAny_pure ?_))
  refine wpAny_bind (wpAny_isOneOf_keyiter hit.typeIs ?_)
  show wpAny _ _ (setField (.ref it) 1 (rawInt ((i : Int) + 1)) >>= _) _ _ s
  refine wpAny_bind (wpAny_setField ho hd (by simp) ?_)
  have hit' : (s.heap.update it (Obj.mapFields (·.setIfInBounds 1 (rawInt ((i : Int) + 1))))).IsKeyIter it d (i + 1) es.size ep :=
    ⟨_, Heap.get?_update_self _ ho (Obj.isFreed_of_fields (Obj.data_mapFields hd _)), (Obj.cls_mapFields ..).trans hc, by rw [Obj.data_mapFields hd]; simp [rawInt]⟩
  refine wpAny_bind (wpAny_holding ?_)
  refine wpAny_bind (wpAny_isOneOf_keyiter (s := { s with heap := s.heap.update it (Obj.mapFields (·.setIfInBounds 1 (rawInt ((i : Int) + 1)))) }) hit'.typeIs ?_)
  show wpAny _ _ (pure es[i].key) _ _ _
  rw [he]
  exact wpAny_pure (wpAny_pure ⟨_, rfl, wpAny_pure (hQ _ hit' (Heap.SameBut.update ..))⟩)
theorem rawd_end {it : Addr} {i : Nat} {Q : Option Value → Shared → Prop} (hh : A.handled = none) (hit : s.heap.IsKeyIter it d i es.size ep) (hm : s.heap.RawD d es ep) (hge : es.size ≤ i)
    (hQ : ∀ h', Heap.ExtBut it s.heap h' → Q none { s with heap := h' }) : wpAny (model prog w) A (pyNext (.ref it)) Q E s := by
  obtain ⟨o, ho, hc, hd⟩ := id hit
  obtain ⟨od, hod, hcd, hdd⟩ := id hm
  unfold pyNext
  refine wpAny_bind (wpAny_attempt (wpAny_callSpecial?_slot (name := Str.ofString "__next__") hit.typeIs F.slot_dict_keyiterator_next
    (wpAny_call_entry F.slot_dict_keyiterator_next hit.typeIs F.entry_dict_keyiterator_next ?_ (F.args_dict_keyiterator_next_1 _))))
  refine wpAny_bind (wpAny_pure ?_)
  refine wpAny_bind ?_
  refine wpAny_bind ?_
  first | refine wpAny_bind (wpAny_typeNameOfWhole_keyiter hit.typeIs (wpAny_pure ?_)) | refine wpAny_bind (wpAny_typeNameOf_keyiter hit.typeIs (wpAny_pure ?_))
  refine wpAny_bind (wpAny_fieldsOf ho hd ?_)
  have hown : Builtin.Dict_items.ownsTuple "dict_keyiterator" = false := by decide
  simp only [hown, Bool.false_eq_true, if_false]
  show wpAny _ _ (if (Value.ref d == Value.none) = true then _ else _) _ _ s
  rw [if_neg (show ¬ ((Value.ref d == Value.none) = true) from Bool.false_ne_true)]
  refine wpAny_bind (wpAny_pure ?_)
  refine wpAny_bind (wpAny_dictEntries hod hdd ?_)
  rw [if_neg (by simp)]
  refine wpAny_bind (wpAny_pure ?_)
  refine wpAny_bind (wpAny_dictEpoch hod hdd ?_)
  rw [if_neg (by simp)]
  refine wpAny_pure ?_
  simp only [show ¬ ((i : Int) < 0) from by omega, if_false, Int.toNat_natCast, Array.getElem?_eq_none hge]
  refine wpAny_bind ?_
  first | refine wpAny_bind (wpAny_typeNameOfWhole_keyiter hit.typeIs (wpAny_pure ?_)) | refine wpAny_bind (wpAny_typeNameOf_keyiter hit.typeIs (wpAny_pure ?_))
  show wpAny _ _ (setField (.ref it) 0 .none >>= _) _ _ s
  refine wpAny_bind (wpAny_setField ho hd (by simp) ?_)
  show wpAny _ _ (newExc (.type "StopIteration") [] >>= _) _ _ _
  refine wpAny_bind ?_
  simp only [newExc, newTuple]
  refine wpAny_bind (wpAny_newObj_type ?_ (by size_fits))
  refine wpAny_bind (m := firstArgMember _ _) (wpAny_of_eq (a := Value.none) (by first | rfl | (simp only [firstArgMember]; rfl)) ?_)
  refine wpAny_newObj_type ?_ (by size_fits)
  simp only [raiseNew]
  refine wpAny_bind (wpAny_handled ?_)
  rw [show A.in1.handled = none from hh]
  refine wpAny_bind (wpAny_pure (wpAny_throw ?_))
  refine wpAny_bind (wpAny_isInstance (T := "StopIteration") (b := true) ⟨_, Heap.get?_push_size _ rfl, rfl⟩ isSubtype_stop ?_)
  exact wpAny_pure (hQ _ (((Heap.SameBut.update ..).extBut.push _).push _))
theorem Walks.rawKeys (hh : A.handled = none) (I d : Addr) (hne : d ≠ I) (es : Array DictEntry) (ep : Nat) :
    Walks prog w A I [I, d] [I] es.size (fun i v => ∃ e, es[i]? = some e ∧ v = e.key) (fun i h => h.IsKeyIter I d i es.size ep ∧ h.RawD d es ep) where
  sub := fun b hb => by simp at hb; simp [hb]
  frame := fun _ _ _ st hk => ⟨st.1.at fun o e => hk I (by simp) o e, st.2.at fun o e => hk d (by simp) o e⟩
  item := fun i s Q E hi st hQ => by
    have hx : es[i]? = some es[i] := Array.getElem?_eq_getElem hi
    refine rawd_next st.1 st.2 hx fun h' hit' hs' => ?_
    exact hQ _ h' s.toks ⟨_, hx, rfl⟩ ⟨hit', st.2.at fun o e => (hs'.2 d hne).trans e⟩ fun b o hb e => hs'.extBut b o (fun h => hb (by simp [h])) e
  done := fun s Q E st hQ => rawd_end hh st.1 st.2 (Nat.le_refl _) fun h' he' => hQ h' s.toks fun b o hb e => he' b o (fun h => hb (by simp [h])) e
  self := fun _ _ _ _ st hQ => wpAny_pyIter_keyiter st.1 hQ
theorem kdl_raw (lo : (d == sysModules) = false) : PySem.W.KdlSrc prog w "dict" d d es.size (fun i v => ∃ e, es[i]? = some e ∧ v = e.key) (fun h => h.RawD d es ep) where
  type := fun _ hm => hm.typeIs
  there := fun _ hm => ⟨hm.lt, hm.lt⟩
  keep := fun _ _ hm hk => hm.at fun o e => hk d (.inl rfl) o e
  notList := by decide
  notTuple := by decide
  hint := fun _ _ _ _ hm hq => PySem.W.kdl_hint_dict hm.typeIs hq
  iter := fun _ _ hh hm => ⟨_, _, (fun _ _ hq => rawd_iter lo hm hq), Walks.rawKeys hh _ d (Nat.ne_of_lt hm.lt) es ep, ⟨⟨_, Heap.get?_push_size _ rfl, rfl, rfl⟩, hm.at fun o e => Heap.get?_push_of_some _ e⟩⟩
end
end PySem

set_option Elab.async false
set_option linter.all false
set_option maxRecDepth 100000
/-! A tracked dict whose keys are tuples of any shape up to eight deep. -/
namespace L2
open PySem PySem.Spec PyProof.Rows
/-- the entries: key, the key's own tuple, value -/
abbrev KE := KD × Addr × V
def kval (kvs : List KE) (k : KD) : Option V := (kvs.find? fun p => decide (p.1 = k)).map (·.2.2)
def kput (kvs : List KE) (k : KD) (b : Addr) (v : V) : List KE := if (kval kvs k).isSome = true then kvs.map (fun p => if p.1 = k then (p.1, p.2.1, v) else p) else kvs ++ [(k, b, v)]
abbrev KX : List KE → List (KD × Addr × Value) → Prop := Paired fun p q => p.1 = q.1 ∧ p.2.1 = q.2.1 ∧ RelV p.2.2 q.2.2
def DKD (P : Program) (w : World) (a : Addr) (kvs : List KE) (h : Heap) : Prop :=
  kvs.length ≤ sizeLine ∧ (a == sysModules) = false ∧ ∃ xs, KX kvs xs ∧ ∃ o es ep, h.get? a = some o ∧ o.ExactDict ∧ o.data = .dict es ep ∧ es.toList = xs.map (entryOfKey (kdKind P w)) ∧ (xs.map (·.1)).Nodup
def dkd (P : Program) (w : World) (a : Addr) (kvs : List KE) : HO := .ext (DKD P w a kvs)
/-- the keys stand as they should -/
def KeysAt (H : Hp) (kvs : List KE) : Prop := ∀ p ∈ kvs, Dt H (.ref p.2.1) p.1.toD ∧ p.1.toD.canLay0 = true ∧ p.1.depth ≤ 8
/-- a key at hand -/
def KeyV (H : Hp) (b : Addr) (k : KD) : Prop := Dt H (.ref b) k.toD ∧ k.toD.canLay0 = true ∧ k.depth ≤ 8
theorem dkd_ok {P : Program} {w : World} {H : Hp} {h : Heap} {a : Addr} {kvs : List KE} (x : DKD P w a kvs h) : ObjOk P w H h a (dkd P w a kvs) := by
  refine ⟨x, ?_, ?_⟩
  · obtain ⟨_, _, _, _, o, _, _, e, _⟩ := x
    exact ⟨o, e⟩
  · rintro h1 h2 ⟨z1, z2, xs, r, o, es, ep, e, q⟩ k
    exact ⟨z1, z2, xs, r, o, es, ep, k o e, q⟩
theorem KX.val {kvs : List KE} {xs : List (KD × Addr × Value)} (r : KX kvs xs) (k : KD) : RelO (kval kvs k) ((atKey xs k).map (·.2)) := by
  induction r with
  | nil => exact True.intro
  | @cons p q ps qs h t ih =>
    obtain ⟨h1, _, h2⟩ := h
    by_cases e : p.1 = k
    · have e' : q.1 = k := h1.symm.trans e
      have b : atKey (q :: qs) k = some q.2 := by simp [atKey, List.find?_cons, e']
      have c : kval (p :: ps) k = some p.2.2 := by simp [kval, List.find?_cons, e]
      rw [c, b]; exact h2
    · have e' : ¬ q.1 = k := fun z => e (h1.trans z)
      have b : atKey (q :: qs) k = atKey qs k := by simp [atKey, List.find?_cons, e']
      have c : kval (p :: ps) k = kval ps k := by simp [kval, List.find?_cons, e]
      rw [c, b]; exact ih
theorem KX.put {kvs : List KE} {xs : List (KD × Addr × Value)} (r : KX kvs xs) (k : KD) (b : Addr) {v : V} {u : Value} (ru : RelV v u) : KX (kput kvs k b v) (storedH xs k b u) := by
  have e : (kval kvs k).isSome = (atKey xs k).isSome := by
    rw [(r.val k).isSome_eq, Option.isSome_map]
  unfold kput storedH
  rw [e]
  by_cases q : (atKey xs k).isSome = true
  · rw [if_pos q, if_pos q]
    clear q e
    induction r with
    | nil => exact .nil
    | @cons p q ps qs h t ih =>
      rw [List.map_cons, List.map_cons]
      refine .cons ?_ ih
      obtain ⟨h1, h2, h3⟩ := h
      unfold putAt
      by_cases e : p.1 = k
      · rw [if_pos e, if_pos (h1.symm.trans e)]; exact ⟨h1, h2, ru⟩
      · rw [if_neg e, if_neg (fun z => e (h1.trans z))]; exact ⟨h1, h2, h3⟩
  · rw [if_neg q, if_neg q]; exact Paired.snoc r ⟨rfl, rfl, ru⟩
theorem kput_len (kvs : List KE) (k : KD) (b : Addr) (v : V) : (kput kvs k b v).length ≤ kvs.length + 1 := by
  unfold kput
  split
  · rw [List.length_map]; omega
  · rw [List.length_append, List.length_singleton]; omega
theorem kput_new {kvs : List KE} {k : KD} (b : Addr) (v : V) (h : kval kvs k = none) : kput kvs k b v = kvs ++ [(k, b, v)] := by
  unfold kput
  rw [h]
  exact if_neg (by decide)
theorem kput_old {kvs : List KE} {k : KD} {u : V} (b : Addr) (v : V) (h : kval kvs k = some u) : kput kvs k b v = kvs.map (fun p => if p.1 = k then (p.1, p.2.1, v) else p) := by
  unfold kput
  rw [h]
  exact if_pos rfl
theorem kval_cons_pos {p : KE} {r : List KE} {k : KD} (e : p.1 = k) : kval (p :: r) k = some p.2.2 := by simp [kval, List.find?_cons, e]
theorem kval_cons_neg {p : KE} {r : List KE} {k : KD} (e : ¬ p.1 = k) : kval (p :: r) k = kval r k := by simp [kval, List.find?_cons, e]
theorem kval_snoc (k j : KD) (b : Addr) (y : V) : ∀ kvs : List KE, kval kvs k = none → kval (kvs ++ [(k, b, y)]) j = if j = k then some y else kval kvs j
  | [], _ => by
    by_cases e : k = j
    · rw [if_pos e.symm]; exact kval_cons_pos (p := (k, b, y)) e
    · rw [if_neg (fun z => e z.symm)]; exact kval_cons_neg (p := (k, b, y)) e
  | p :: r, hn => by
    rw [List.cons_append]
    have hk : ¬ p.1 = k := fun z => by rw [kval_cons_pos z] at hn; cases hn
    rw [kval_cons_neg hk] at hn
    have ih := kval_snoc k j b y r hn
    by_cases e : p.1 = j
    · rw [kval_cons_pos e, kval_cons_pos e, if_neg (fun z => hk (e.trans z))]
    · rw [kval_cons_neg e, kval_cons_neg e, ih]
theorem kval_map (k j : KD) (y : V) : ∀ kvs : List KE, kval (kvs.map fun p => if p.1 = k then (p.1, p.2.1, y) else p) j = (kval kvs j).map fun x => if j = k then y else x
  | [] => rfl
  | p :: r => by
    have ih := kval_map k j y r
    rw [List.map_cons]
    by_cases h : p.1 = k
    · rw [if_pos h]
      by_cases e : p.1 = j
      · rw [kval_cons_pos (p := (p.1, p.2.1, y)) e, kval_cons_pos e, Option.map_some, if_pos (e.symm.trans h)]
      · rw [kval_cons_neg (p := (p.1, p.2.1, y)) e, kval_cons_neg e, ih]
    · rw [if_neg h]
      by_cases e : p.1 = j
      · rw [kval_cons_pos (p := p) e, kval_cons_pos e, Option.map_some, if_neg (fun z => h (e.trans z))]
      · rw [kval_cons_neg (p := p) e, kval_cons_neg e, ih]
theorem kval_put (kvs : List KE) (k j : KD) (b : Addr) (y : V) : kval (kput kvs k b y) j = if j = k then some y else kval kvs j := by
  cases q : kval kvs k with
  | none => rw [kput_new b y q, kval_snoc k j b y kvs q]
  | some u =>
    rw [kput_old b y q, kval_map]
    by_cases e : j = k
    · rw [if_pos e, e, q, Option.map_some, if_pos rfl]
    · rw [if_neg e]
      cases kval kvs j with
      | none => rfl
      | some x => rw [Option.map_some, if_neg e]
theorem kput_keys (kvs : List KE) (k : KD) (b : Addr) (v : V) : ∀ p ∈ kput kvs k b v, (p.1 = k ∧ p.2.1 = b) ∨ ∃ u, (p.1, p.2.1, u) ∈ kvs := fun p hp => by
  unfold kput at hp
  split at hp
  · obtain ⟨q, hq, e⟩ := List.mem_map.mp hp
    right
    split at e
    · subst e
      exact ⟨q.2.2, hq⟩
    · subst e
      exact ⟨q.2.2, hq⟩
  · rcases List.mem_append.mp hp with h | h
    · exact .inr ⟨p.2.2, h⟩
    · rw [List.mem_singleton] at h
      subst h
      exact .inl ⟨rfl, rfl⟩
theorem KeysAt.put {H : Hp} {kvs : List KE} {k : KD} {b : Addr} {v : V} (h : KeysAt H kvs) (hk : KeyV H b k) : KeysAt H (kput kvs k b v) := fun p hp => by
  rcases kput_keys kvs k b v p hp with ⟨e1, e2⟩ | ⟨u, hu⟩
  · rw [e1, e2]; exact hk
  · exact h (p.1, p.2.1, u) hu
section
variable {X : Cx} {pins : List (Addr × Obj)} {σ : St} {H : Hp} {s : Shared} {a b : Addr} {kvs : List KE} {k : KD}
theorem KeyV.is (I : Inv X pins σ H s) (h : KeyV H b k) : (kdKind X.prog X.w).is s.heap k b := by
  obtain ⟨h1, h2, h3⟩ := h
  obtain ⟨as, r⟩ := h1.reads I.hok (u := .ref b) rfl
  exact ⟨⟨as, r⟩, h2, h3⟩
theorem dkd_at (I : Inv X pins σ H s) (e : H a = some (dkd X.prog X.w a kvs)) : DKD X.prog X.w a kvs s.heap := (I.hok a _ e).1
theorem dkd_h (I : Inv X pins σ H s) (e : H a = some (dkd X.prog X.w a kvs)) (hk : KeysAt H kvs) : kvs.length ≤ sizeLine ∧ (a == sysModules) = false ∧ ∃ xs, KX kvs xs ∧ s.heap.DictOfH (kdKind X.prog X.w) a xs := by
  obtain ⟨z, y, xs, r, o, es, ep, h1, h2, h3, h4, h5⟩ := dkd_at I e
  refine ⟨z, y, xs, r, o, es, ep, h1, h2, h3, h4, fun x hx => ?_, h5⟩
  have all : ∀ {l : List KE} {m : List (KD × Addr × Value)}, KX l m → (∀ p ∈ l, p ∈ kvs) → ∀ x ∈ m, (kdKind X.prog X.w).is s.heap x.1 x.2.1 := by
    intro l m q
    induction q with
    | nil => intro _ x hx; exact nomatch hx
    | @cons p q ps qs hq t ih =>
      intro sub x hx
      rcases List.mem_cons.mp hx with e | hx
      · subst e
        rw [← hq.1, ← hq.2.1]
        exact KeyV.is I (hk p (sub p (by simp)))
      · exact ih (fun p hp => sub p (List.mem_cons_of_mem _ hp)) x hx
  exact all r (fun _ h => h) x hx
end
/-- {} of this kind -/
def tDNewD (P : Program) (w : World) : TE := fun _ H Q => ∀ p, H p = none → Q (.ref p) (upd H p (dkd P w p []))
/-- what the dict at d holds -/
structure DH (P : Program) (w : World) (H : Hp) (d : Addr) (kvs : List KE) : Prop where
  at_ : H d = some (dkd P w d kvs)
  keys : KeysAt H kvs
section
variable {X : Cx}
theorem pe_dnewD {pos : Pos} : PE X (.Dict [] [] pos) (tDNewD X.prog X.w) := fun pins s σ H Q I h =>
  wpAny_Dict_empty ⟨.ref s.heap.objs.size, _, I.laid (a := s.heap.objs.size) (o := dkd X.prog X.w s.heap.objs.size []) (t' := s.toks) (fun _ _ q => Heap.get?_push_of_some _ q) (Nat.le_refl _)
    (dkd_ok ⟨Nat.zero_le _, beq_eq_false_iff_ne.mpr (Ne.symm (Nat.ne_of_lt I.big)), [], .nil, _, #[], 0, Heap.get?_push_size _ rfl, ⟨rfl, rfl, rfl⟩, rfl, rfl, List.nodup_nil⟩), rfl, h _ (I.hok.fresh (Nat.le_refl _))⟩
def rInKD (P : Program) (w : World) (f : Bool → Bool) : R2 := fun x y H Q => ∃ b d k kvs, x = .ref b ∧ y = .ref d ∧ DH P w H d kvs ∧ KeyV H b k ∧ Q (.bl (f (kval kvs k).isSome)) H
theorem op_inKD (hu : X.A.units + 64 < cLine) : OpR X (compareOp .In) (rInKD X.prog X.w fun b => b) := by
  intro pins s σ H x y v u Q I rx ry h
  obtain ⟨b, d, k, kvs, rfl, rfl, D, hk, q⟩ := h
  cases (show v = Value.ref b from rx)
  cases (show u = Value.ref d from ry)
  obtain ⟨z, hd, xs, rel, dd⟩ := dkd_h I D.at_ D.keys
  refine wpAny_in_heap (knd := kdKind X.prog X.w) (show X.A.units + 1 + 10 < cLine by omega) (hk.is I) hd dd ?_
  have e := (rel.val k).isSome_eq
  rw [Option.isSome_map] at e
  rw [← e]
  exact ⟨.bl _, H, I.tok _, rfl, q⟩
theorem op_notInKD (hu : X.A.units + 64 < cLine) : OpR X (compareOp .NotIn) (rInKD X.prog X.w fun b => !b) := by
  intro pins s σ H x y v u Q I rx ry h
  obtain ⟨b, d, k, kvs, rfl, rfl, D, hk, q⟩ := h
  cases (show v = Value.ref b from rx)
  cases (show u = Value.ref d from ry)
  obtain ⟨z, hd, xs, rel, dd⟩ := dkd_h I D.at_ D.keys
  refine wpAny_notIn_heap (knd := kdKind X.prog X.w) (show X.A.units + 1 + 10 < cLine by omega) (hk.is I) hd dd ?_
  have e := (rel.val k).isSome_eq
  rw [Option.isSome_map] at e
  rw [← e]
  exact ⟨.bl _, H, I.tok _, rfl, q⟩
def rIxKD (P : Program) (w : World) : R2 := fun x y H Q => ∃ d b k kvs v, x = .ref d ∧ y = .ref b ∧ DH P w H d kvs ∧ KeyV H b k ∧ kval kvs k = some v ∧ Q v H
theorem ix_KD (hu : X.A.units + 64 < cLine) : IxR X (rIxKD X.prog X.w) := by
  intro value slice pins s σ H x y v u Q I rx ry h hs
  obtain ⟨d, b, k, kvs, r, rfl, rfl, D, hk, hv, q⟩ := h
  cases (show v = Value.ref d from rx)
  cases (show u = Value.ref b from ry)
  obtain ⟨z, hd, xs, rel, dd⟩ := dkd_h I D.at_ D.keys
  have rv := rel.val k
  rw [hv] at rv
  cases e : atKey xs k with
  | none => rw [e] at rv; exact (show False from rv).elim
  | some p =>
    rw [e] at rv
    refine subscriptTail_builtinR (x := p.2) dd.typeIs PySem.F.slot_dict_getitem.lookup ?_ hs
    exact wpAny_getItem_heap (knd := kdKind X.prog X.w) (show X.A.units + 1 + 10 < cLine by omega) (hk.is I) dd e ⟨rfl, r, H, I.tok _, rv, q⟩
def rSetKD (P : Program) (w : World) : TSet := fun o i v H Q => ∃ d b k kvs, o = .ref d ∧ i = .ref b ∧ DH P w H d kvs ∧ KeyV H b k ∧ kvs.length < sizeLine ∧ Q (upd H d (dkd P w d (kput kvs k b v)))
theorem set_KD (hu : X.A.units + 64 < cLine) : PSet X (rSetKD X.prog X.w) := by
  intro pins s σ H o i v ov iv u Q I ro ri rv h
  obtain ⟨d, b, k, kvs, rfl, rfl, D, hk, hz, q⟩ := h
  cases (show ov = Value.ref d from ro)
  cases (show iv = Value.ref b from ri)
  obtain ⟨z, hd, xs, rel, dd⟩ := dkd_h I D.at_ D.keys
  have hl : (kput kvs k b v).length ≤ sizeLine := by have := kput_len kvs k b v; omega
  refine wpAny_setItem_heap (knd := kdKind X.prog X.w) (hsz := by rw [← Paired.length rel]; exact z) (show X.A.units + 1 + 10 < cLine by omega) (hk.is I) dd fun h' dd' hs => ?_
  obtain ⟨ob, es, ep, hq, h2, h3, h4, _, h5⟩ := dd'
  refine ⟨_, d_write (ob := dkd X.prog X.w d (kput kvs k b v)) I (by rw [D.at_]; exact True.intro) hs ⟨ob, hq⟩ (dkd_ok ⟨hl, hd, _, rel.put k b rv, ob, es, ep, hq, h2, h3, h4, h5⟩), q⟩
theorem call_lenKD : CallR X (.builtin "len") (fun xs H Q => ∃ d kvs, xs = [.ref d] ∧ DH X.prog X.w H d kvs ∧ Q (.int kvs.length) H) := by
  intro pins s σ H xs us Q I r h
  obtain ⟨d, kvs, rfl, D, q⟩ := h
  obtain ⟨u, rfl, ru⟩ := vals1 r
  cases (show u = Value.ref d from ru)
  obtain ⟨z, hd, ys, rel, o, es, ep, h1, h2, h3, h4, _⟩ := dkd_at I D.at_
  have hn := line63
  have e : es.size = kvs.length := by rw [Paired.length rel, ← List.length_map (f := entryOfKey (kdKind X.prog X.w)), ← h4, Array.length_toList]
  refine rawd_len hd ⟨o, h1, h2, h3⟩ (by omega) ?_
  rw [e]
  exact ⟨.int kvs.length, H, I.tok _, ⟨_, rfl⟩, q⟩
/-- list(d): the keys' own tuples -/
theorem call_listKD (hc : X.calm = true) : CallR X (.type "list") (fun xs H Q => ∃ d kvs, xs = [.ref d] ∧ DH X.prog X.w H d kvs ∧ ∀ l, H l = none → Q (.ref l) (upd H l (.lst (kvs.map fun p => .ref p.2.1)))) := by
  intro pins s σ H xs us Q I r h
  obtain ⟨d, kvs, rfl, D, q⟩ := h
  obtain ⟨u, rfl, ru⟩ := vals1 r
  cases (show u = Value.ref d from ru)
  obtain ⟨z, hd, ys, rel, o, es, ep, h1, h2, h3, h4, nodup⟩ := dkd_at I D.at_
  have e : es.size = kvs.length := by rw [Paired.length rel, ← List.length_map (f := entryOfKey (kdKind X.prog X.w)), ← h4, Array.length_toList]
  refine PySem.W.kdl_call (kdl_raw (es := es) (ep := ep) hd) (I.ok.hd hc) ⟨o, h1, h2, h3⟩ (by rw [e]; exact z) fun h' tk acc' c' kp hS hacc => ?_
  have hlen : (kvs.map fun p => V.ref p.2.1).length ≤ sizeLine := by rw [List.length_map]; exact z
  have hv : Vals (kvs.map fun p => V.ref p.2.1) acc'.toList := by
    have hes : es.toList.map (·.key) = ys.map fun q => Value.ref q.2.1 := by rw [h4, List.map_map]; rfl
    have hacc' : acc'.toList = es.toList.map (·.key) := by
      refine List.ext_getElem? fun i => ?_
      by_cases hi : i < acc'.size
      · obtain ⟨en, he, hv⟩ := hacc.2 i acc'[i] (Array.getElem?_eq_getElem hi)
        rw [Array.getElem?_toList, Array.getElem?_eq_getElem hi, List.getElem?_map, Array.getElem?_toList, he, hv]
        rfl
      · have hsz := hacc.1
        rw [List.getElem?_eq_none (by simp; omega), List.getElem?_eq_none (by simp; omega)]
    rw [hacc', hes]
    clear q z h4 hes hacc' hlen e hacc D nodup
    induction rel with
    | nil => exact .nil
    | @cons p q ps qs hq t ih =>
      rw [List.map_cons, List.map_cons]
      refine .cons ?_ ih
      show Value.ref q.2.1 = Value.ref p.2.1
      rw [hq.2.1]
  have I2 : Inv X pins σ (upd H s.heap.objs.size (.lst (kvs.map fun p => .ref p.2.1))) { s with heap := h', toks := tk } :=
    I.laid (t' := tk) kp (Nat.le_refl _) (show ObjOk X.prog X.w _ h' _ (.lst _) from ⟨hlen, acc'.toList, c', hv, by rw [Array.toArray_toList]; exact hS⟩)
  exact ⟨.ref s.heap.objs.size, _, I2, rfl, q _ (I.hok.fresh (Nat.le_refl _))⟩
end
end L2

set_option linter.all false
set_option maxRecDepth 100000
/-! What follows from what is told, apart from any heap: the least congruence, and how a table of numbers over some things tells it. -/
namespace Sb
open PySem
/-- what is told: true for the same, false for unlike -/
abbrev Tl := List (Bool × Th × Th)
mutual
inductive Cg (tl : Tl) : Th → Th → Prop
  | refl (t : Th) : Cg tl t t
  | symm {s t : Th} : Cg tl s t → Cg tl t s
  | trans {r s t : Th} : Cg tl r s → Cg tl s t → Cg tl r t
  | told {s t : Th} : (true, s, t) ∈ tl → Cg tl s t
  | cong {w : Str} {ps qs : List Th} : CgL tl ps qs → Cg tl (.mk w ps) (.mk w qs)
inductive CgL (tl : Tl) : List Th → List Th → Prop
  | nil : CgL tl [] []
  | cons {p q : Th} {ps qs : List Th} : Cg tl p q → CgL tl ps qs → CgL tl (p :: ps) (q :: qs)
end
theorem CgL.of {tl : Tl} : ∀ {ps qs : List Th}, ps.length = qs.length → (∀ (i : Nat) p q, ps[i]? = some p → qs[i]? = some q → Cg tl p q) → CgL tl ps qs
  | [], [], _, _ => .nil
  | [], _ :: _, h, _ => by simp at h
  | _ :: _, [], h, _ => by simp at h
  | p :: ps, q :: qs, h, f => .cons (f 0 p q rfl rfl) (CgL.of (by simpa using h) fun i a b ha hb => f (i + 1) a b (by simpa using ha) (by simpa using hb))
mutual
theorem Cg.mono {tl tl' : Tl} (h : ∀ a b, (true, a, b) ∈ tl → (true, a, b) ∈ tl') : ∀ {s t : Th}, Cg tl s t → Cg tl' s t
  | _, _, .refl t => .refl t
  | _, _, .symm c => .symm (Cg.mono h c)
  | _, _, .trans c d => .trans (Cg.mono h c) (Cg.mono h d)
  | _, _, .told m => .told (h _ _ m)
  | _, _, .cong c => .cong (CgL.mono h c)
theorem CgL.mono {tl tl' : Tl} (h : ∀ a b, (true, a, b) ∈ tl → (true, a, b) ∈ tl') : ∀ {s t : List Th}, CgL tl s t → CgL tl' s t
  | _, _, .nil => .nil
  | _, _, .cons c d => .cons (Cg.mono h c) (CgL.mono h d)
end
/-! ### values in an algebra of classes and of free terms -/
inductive Dv where
  | cls (i : Int)
  | node (w : Str) (ds : List Dv)
open Classical in
noncomputable def act (S : List Th) (L : Th → Int) (w : Str) (ds : List Dv) : Dv :=
  if h : ∃ qs, Th.mk w qs ∈ S ∧ qs.map (fun q => Dv.cls (L q)) = ds then .cls (L (.mk w (Classical.choose h))) else .node w ds
mutual
noncomputable def ev (S : List Th) (L : Th → Int) : Th → Dv
  | .mk w ps => act S L w (evL S L ps)
noncomputable def evL (S : List Th) (L : Th → Int) : List Th → List Dv
  | [] => []
  | p :: r => ev S L p :: evL S L r
end
theorem evL_map (S : List Th) (L : Th → Int) : ∀ ps, evL S L ps = ps.map (ev S L)
  | [] => by simp [evL]
  | p :: r => by simp [evL, evL_map S L r]
/-- a table over S: closed under parts, congruent on S -/
structure Table (tl : Tl) (S : List Th) (L : Th → Int) : Prop where
  closed : ∀ w ps, Th.mk w ps ∈ S → ∀ p ∈ ps, p ∈ S
  told : ∀ a b, (true, a, b) ∈ tl → a ∈ S ∧ b ∈ S ∧ L a = L b
  cong : ∀ w ps qs, Th.mk w ps ∈ S → Th.mk w qs ∈ S → ps.map L = qs.map L → L (.mk w ps) = L (.mk w qs)
theorem cls_map {L : Th → Int} : ∀ {ps qs : List Th}, ps.map (fun q => Dv.cls (L q)) = qs.map (fun q => Dv.cls (L q)) → ps.map L = qs.map L
  | [], [], _ => rfl
  | [], _ :: _, h => by simp at h
  | _ :: _, [], h => by simp at h
  | p :: ps, q :: qs, h => by
    simp only [List.map_cons, List.cons.injEq, Dv.cls.injEq] at h ⊢
    exact ⟨h.1, cls_map h.2⟩
mutual
theorem ev_S {tl : Tl} {S : List Th} {L : Th → Int} (T : Table tl S L) : ∀ t : Th, t ∈ S → ev S L t = .cls (L t)
  | .mk w ps, h => by
    have e : evL S L ps = ps.map (fun q => Dv.cls (L q)) := evL_S T ps (T.closed w ps h)
    have ex : ∃ qs, Th.mk w qs ∈ S ∧ qs.map (fun q => Dv.cls (L q)) = ps.map (fun q => Dv.cls (L q)) := ⟨ps, h, rfl⟩
    have e2 : ev S L (.mk w ps) = act S L w (evL S L ps) := by simp only [ev]
    rw [e2, e]
    unfold act
    rw [dif_pos ex]
    have c := Classical.choose_spec ex
    rw [T.cong w _ ps c.1 h (cls_map c.2)]
theorem evL_S {tl : Tl} {S : List Th} {L : Th → Int} (T : Table tl S L) : ∀ ps : List Th, (∀ p ∈ ps, p ∈ S) → evL S L ps = ps.map (fun q => Dv.cls (L q))
  | [], _ => by simp [evL]
  | p :: r, h => by
    simp only [evL, List.map_cons]
    rw [ev_S T p (h p List.mem_cons_self), evL_S T r fun q hq => h q (List.mem_cons_of_mem _ hq)]
end
mutual
theorem ev_cg {tl : Tl} {S : List Th} {L : Th → Int} (T : Table tl S L) : ∀ {s t : Th}, Cg tl s t → ev S L s = ev S L t
  | _, _, .refl _ => rfl
  | _, _, .symm c => (ev_cg T c).symm
  | _, _, .trans c d => (ev_cg T c).trans (ev_cg T d)
  | _, _, .told m => by
    obtain ⟨h1, h2, h3⟩ := T.told _ _ m
    rw [ev_S T _ h1, ev_S T _ h2, h3]
  | _, _, .cong c => by simp only [ev, evL_cg T c]
theorem evL_cg {tl : Tl} {S : List Th} {L : Th → Int} (T : Table tl S L) : ∀ {s t : List Th}, CgL tl s t → evL S L s = evL S L t
  | _, _, .nil => rfl
  | _, _, .cons c d => by simp only [evL, ev_cg T c, evL_cg T d]
end
/-- a table tells no more apart than what follows does -/
theorem Table.complete {tl : Tl} {S : List Th} {L : Th → Int} (T : Table tl S L) {x y : Th} (hx : x ∈ S) (hy : y ∈ S) (c : Cg tl x y) : L x = L y := by
  have e := ev_cg T c
  rw [ev_S T x hx, ev_S T y hy] at e
  injection e
/-- a table of what follows -/
structure Tells (tl : Tl) (S : List Th) (L : Th → Int) : Prop where
  tab : Table tl S L
  sound : ∀ x ∈ S, ∀ y ∈ S, L x = L y → Cg tl x y
theorem Tells.iff {tl : Tl} {S : List Th} {L : Th → Int} (T : Tells tl S L) {x y : Th} (hx : x ∈ S) (hy : y ∈ S) : L x = L y ↔ Cg tl x y := ⟨T.sound x hx y hy, T.tab.complete hx hy⟩
/-! ### one number put for another -/
def mrg (L : Th → Int) (o n : Int) : Th → Int := fun t => if L t = o then n else L t
theorem mrg_eq {L : Th → Int} {o n : Int} {x y : Th} (h : L x = L y) : mrg L o n x = mrg L o n y := by unfold mrg; rw [h]
theorem mrg_sound {tl : Tl} {S : List Th} {L : Th → Int} {a b : Th} (ha : a ∈ S) (hb : b ∈ S) (s : ∀ x ∈ S, ∀ y ∈ S, L x = L y → Cg tl x y) (c : Cg tl a b) : ∀ x ∈ S, ∀ y ∈ S, mrg L (L a) (L b) x = mrg L (L a) (L b) y → Cg tl x y := by
  intro x hx y hy e
  unfold mrg at e
  by_cases h1 : L x = L a
  · by_cases h2 : L y = L a
    · exact s x hx y hy (h1.trans h2.symm)
    · rw [if_pos h1, if_neg h2] at e
      exact .trans (s x hx a ha h1) (.trans c (s b hb y hy e))
  · by_cases h2 : L y = L a
    · rw [if_neg h1, if_pos h2] at e
      exact .trans (s x hx b hb e) (.trans (.symm c) (.symm (s y hy a ha h2)))
    · rw [if_neg h1, if_neg h2] at e
      exact s x hx y hy e
end Sb

set_option Elab.async false
set_option linter.all false
set_option maxRecDepth 100000
/-! What is told, over the heap; things as keys; the numbers that a dict gives to things. -/
namespace Sb
open PySem PySem.Spec PyProof.Rows L2
mutual
def kd : Th → KD
  | .mk w ps => .tup (.str w :: kds ps)
def kds : List Th → List KD
  | [] => []
  | p :: r => kd p :: kds r
end
mutual
theorem kd_toD : ∀ t : Th, (kd t).toD = t.toD
  | .mk w ps => by simp only [kd, KD.toD, kdL, Th.toD, kds_toD ps]
theorem kds_toD : ∀ ts : List Th, kdL (kds ts) = toDL ts
  | [] => by simp [kds, kdL, toDL]
  | t :: r => by simp only [kds, kdL, toDL, kd_toD t, kds_toD r]
end
theorem kd_th_depth (t : Th) : (kd t).depth = t.depth := by rw [← kd_depth, kd_toD, depth_toD]
theorem kd_inj' {s t : Th} (h : kd s = kd t) : s = t := by
  have e : s.toD = t.toD := by rw [← kd_toD, ← kd_toD, h]
  exact (eqv_iff s t).mp (by rw [e]; exact (eqv_iff t t).mpr rfl)
mutual
theorem th_of_dt {H : Hp} : ∀ (t : Th) {v : V}, Dt H v t.toD → IsTh H v t
  | .mk w ps, v, h => by
    simp only [Th.toD] at h
    cases h with
    | tup e r =>
      cases r with
      | cons h1 h2 =>
        cases h1
        exact .mk e (ths_of_dts ps h2)
theorem ths_of_dts {H : Hp} : ∀ (ts : List Th) {vs : List V}, Dts H vs (toDL ts) → AreTh H vs ts
  | [], vs, h => by simp only [toDL] at h; cases h; exact .nil
  | t :: r, vs, h => by
    simp only [toDL] at h
    cases h with
    | cons h1 h2 => exact .cons (th_of_dt t h1) (ths_of_dts r h2)
end
theorem key_th {H : Hp} {b : Addr} {t : Th} (h : IsTh H (.ref b) t) (ok : t.ok = true) (dp : t.depth ≤ 8) : KeyV H b (kd t) := ⟨by rw [kd_toD]; exact h.dt, by rw [kd_toD]; exact lay_of t ok, by rw [kd_th_depth]; exact dp⟩
mutual
theorem dt_tups {H H' : Hp} (e : Tups H H') : ∀ (k : KD) {v : V}, Dt H v k.toD → Dt H' v k.toD
  | .int i, v, h => by simp only [KD.toD] at h ⊢; cases h; exact .int i
  | .str x, v, h => by simp only [KD.toD] at h ⊢; cases h; exact .str x
  | .tup xs, v, h => by
    simp only [KD.toD] at h ⊢
    cases h with
    | tup h1 h2 => exact .tup (e _ _ h1) (dts_tups e xs h2)
theorem dts_tups {H H' : Hp} (e : Tups H H') : ∀ (ks : List KD) {vs : List V}, Dts H vs (kdL ks) → Dts H' vs (kdL ks)
  | [], vs, h => by simp only [kdL] at h ⊢; cases h; exact .nil
  | k :: r, vs, h => by
    simp only [kdL] at h ⊢
    cases h with
    | cons h1 h2 => exact .cons (dt_tups e k h1) (dts_tups e r h2)
end
theorem keysAt_tups {H H' : Hp} (e : Tups H H') {kvs : List KE} (h : KeysAt H kvs) : KeysAt H' kvs := fun p hp => ⟨dt_tups e p.1 (h p hp).1, (h p hp).2⟩
/-- a dict that gives numbers to the things of S -/
structure Num (P : Program) (w : World) (H : Hp) (d : Addr) (S : List Th) (L : Th → Int) : Prop where
  ex : ∃ kvs : List KE, H d = some (dkd P w d kvs) ∧ KeysAt H kvs ∧ kvs.map (·.1) = S.map kd ∧ ∀ t ∈ S, kval kvs (kd t) = some (.int (L t))
  ok : ∀ t ∈ S, t.ok = true ∧ t.depth ≤ 8
theorem Num.at {P : Program} {w : World} {H : Hp} {d : Addr} {S : List Th} {L : Th → Int} (N : Num P w H d S L) : ∃ o, H d = some (.ext o) := by
  obtain ⟨kvs, h, _⟩ := N.ex
  exact ⟨_, h⟩
theorem Num.keep {P : Program} {w : World} {H H' : Hp} {d : Addr} {S : List Th} {L : Th → Int} (N : Num P w H d S L) (hd : ∀ o, H d = some o → H' d = some o) (e : Tups H H') : Num P w H' d S L := by
  obtain ⟨kvs, h1, h2, h3, h4⟩ := N.ex
  exact ⟨⟨kvs, hd _ h1, keysAt_tups e h2, h3, h4⟩, N.ok⟩
theorem Num.same {P : Program} {w : World} {H H' : Hp} {d : Addr} {S : List Th} {L : Th → Int} (N : Num P w H d S L) (e : Same H H') : Num P w H' d S L := N.keep (fun o h => e d o h) (Tups.of e)
/-- d[t] -/
theorem Num.get {P : Program} {w : World} {H : Hp} {d b : Addr} {S : List Th} {L : Th → Int} {t : Th} {Q : VK} (N : Num P w H d S L) (ht : t ∈ S) (h : IsTh H (.ref b) t) (q : Q (.int (L t)) H) : rIxKD P w (.ref d) (.ref b) H Q := by
  obtain ⟨kvs, h1, h2, h3, h4⟩ := N.ex
  exact ⟨d, b, kd t, kvs, _, rfl, rfl, ⟨h1, h2⟩, key_th h (N.ok t ht).1 (N.ok t ht).2, h4 t ht, q⟩
/-- d[t] = i, t there -/
theorem Num.put {P : Program} {w : World} {H : Hp} {d b : Addr} {S : List Th} {L : Th → Int} {t : Th} {i : Int} {Q : Hp → Prop} (N : Num P w H d S L) (hl : S.length ≤ 1000000) (ht : t ∈ S) (h : IsTh H (.ref b) t)
    (q : ∀ H', (∀ c o, H c = some o → c ≠ d → H' c = some o) → Num P w H' d S (fun u => if u = t then i else L u) → Q H') : rSetKD P w (.ref d) (.ref b) (.int i) H Q := by
  obtain ⟨kvs, h1, h2, h3, h4⟩ := N.ex
  have lk : kvs.length = S.length := by have := congrArg List.length h3; simpa using this
  have kv := key_th h (N.ok t ht).1 (N.ok t ht).2
  refine ⟨d, b, kd t, kvs, rfl, rfl, ⟨h1, h2⟩, kv, by rw [sizeLine_eq]; omega, q _ (fun c o e hc => by rw [upd_ne hc]; exact e) ?_⟩
  have tu : Tups H (upd H d (dkd P w d (kput kvs (kd t) b (.int i)))) := tups_upd fun xs e => by rw [h1] at e; cases e
  refine ⟨⟨_, upd_same, keysAt_tups tu (h2.put kv), ?_, fun u hu => ?_⟩, N.ok⟩
  · rw [kput_old b _ (h4 t ht), List.map_map]
    rw [← h3]
    refine List.map_congr_left fun p _ => ?_
    show (if p.1 = kd t then (p.1, p.2.1, V.int i) else p).1 = p.1
    split <;> rfl
  · rw [kval_put]
    by_cases e : u = t
    · subst e; rw [if_pos rfl, if_pos rfl]
    · rw [if_neg (fun z => e (kd_inj' z)), if_neg e]
      exact h4 u hu
/-- d[t] = i, t new -/
theorem Num.add {P : Program} {w : World} {H : Hp} {d b : Addr} {S : List Th} {L : Th → Int} {t : Th} {i : Int} {Q : Hp → Prop} (N : Num P w H d S L) (hl : S.length ≤ 1000000) (ht : ¬ t ∈ S) (ok : t.ok = true) (dp : t.depth ≤ 8) (h : IsTh H (.ref b) t)
    (q : ∀ H', (∀ c o, H c = some o → c ≠ d → H' c = some o) → Num P w H' d (S ++ [t]) (fun u => if u = t then i else L u) → Q H') : rSetKD P w (.ref d) (.ref b) (.int i) H Q := by
  obtain ⟨kvs, h1, h2, h3, h4⟩ := N.ex
  have lk : kvs.length = S.length := by have := congrArg List.length h3; simpa using this
  have kv := key_th h ok dp
  have hnone : kval kvs (kd t) = none := by
    cases e : kval kvs (kd t) with
    | none => rfl
    | some v =>
      exfalso
      unfold kval at e
      obtain ⟨p, hp, _⟩ := Option.map_eq_some_iff.mp e
      have h5 := List.find?_some hp
      have h6 : p.1 = kd t := of_decide_eq_true h5
      have h7 : kd t ∈ kvs.map (·.1) := List.mem_map.mpr ⟨p, List.mem_of_find?_eq_some hp, h6⟩
      rw [h3] at h7
      obtain ⟨u, hu, eu⟩ := List.mem_map.mp h7
      exact ht (kd_inj' eu ▸ hu)
  refine ⟨d, b, kd t, kvs, rfl, rfl, ⟨h1, h2⟩, kv, by rw [sizeLine_eq]; omega, q _ (fun c o e hc => by rw [upd_ne hc]; exact e) ?_⟩
  have tu : Tups H (upd H d (dkd P w d (kput kvs (kd t) b (.int i)))) := tups_upd fun xs e => by rw [h1] at e; cases e
  refine ⟨⟨_, upd_same, keysAt_tups tu (h2.put kv), ?_, fun u hu => ?_⟩, fun u hu => ?_⟩
  · rw [kput_new b _ hnone, List.map_append, h3, List.map_append]
    rfl
  · rw [kval_put]
    by_cases e : u = t
    · subst e; rw [if_pos rfl, if_pos rfl]
    · rw [if_neg (fun z => e (kd_inj' z)), if_neg e]
      rcases List.mem_append.mp hu with hu | hu
      · exact h4 u hu
      · rw [List.mem_singleton] at hu
        exact absurd hu e
  · rcases List.mem_append.mp hu with hu | hu
    · exact N.ok u hu
    · rw [List.mem_singleton] at hu
      subst hu
      exact ⟨ok, dp⟩
/-- t not in d -/
theorem Num.notin {P : Program} {w : World} {H : Hp} {d b : Addr} {S : List Th} {L : Th → Int} {t : Th} {Q : VK} (N : Num P w H d S L) (ok : t.ok = true) (dp : t.depth ≤ 8) (h : IsTh H (.ref b) t) (q : Q (.bl (!decide (t ∈ S))) H) : rInKD P w (fun b => !b) (.ref b) (.ref d) H Q := by
  obtain ⟨kvs, h1, h2, h3, h4⟩ := N.ex
  refine ⟨b, d, kd t, kvs, rfl, rfl, ⟨h1, h2⟩, key_th h ok dp, ?_⟩
  have e : (kval kvs (kd t)).isSome = decide (t ∈ S) := by
    by_cases ht : t ∈ S
    · rw [decide_eq_true ht, h4 t ht]; rfl
    · rw [decide_eq_false ht]
      cases e : kval kvs (kd t) with
      | none => rfl
      | some v =>
        exfalso
        unfold kval at e
        obtain ⟨p, hp, _⟩ := Option.map_eq_some_iff.mp e
        have h5 := List.find?_some hp
        have h6 : p.1 = kd t := of_decide_eq_true h5
        have h7 : kd t ∈ kvs.map (·.1) := List.mem_map.mpr ⟨p, List.mem_of_find?_eq_some hp, h6⟩
        rw [h3] at h7
        obtain ⟨u, hu, eu⟩ := List.mem_map.mp h7
        exact ht (kd_inj' eu ▸ hu)
  rw [e]
  exact q
/-- the keys' own tuples, in their order -/
theorem Num.names {P : Program} {w : World} {H : Hp} {d : Addr} {S : List Th} {L : Th → Int} (N : Num P w H d S L) : ∃ kvs, DH P w H d kvs ∧ kvs.length = S.length ∧ AreTh H (kvs.map fun p => V.ref p.2.1) S := by
  obtain ⟨kvs, h1, h2, h3, h4⟩ := N.ex
  have lk : kvs.length = S.length := by have := congrArg List.length h3; simpa using this
  refine ⟨kvs, ⟨h1, h2⟩, lk, ?_⟩
  have all : ∀ (l : List KE) (S : List Th), (∀ p ∈ l, p ∈ kvs) → l.map (·.1) = S.map kd → AreTh H (l.map fun p => V.ref p.2.1) S := by
    intro l
    induction l with
    | nil => intro S _ e; cases S with
      | nil => exact .nil
      | cons t r => simp at e
    | cons p l ih => intro S sub e; cases S with
      | nil => simp at e
      | cons t r =>
        simp only [List.map_cons, List.cons.injEq] at e
        refine .cons (th_of_dt t ?_) (ih r (fun q hq => sub q (List.mem_cons_of_mem _ hq)) e.2)
        have := (h2 p (sub p List.mem_cons_self)).1
        rw [e.1, kd_toD] at this
        exact this
  exact all kvs S (fun _ h => h) h3

/-! ### what is told, over the heap -/
def tw (b : Bool) : Str := if b then "same" else "unlike"
def TlAt (H : Hp) : List V → Tl → Prop := Paired fun x p => ∃ a v u, x = .ref a ∧ H a = some (.tup [.str (tw p.1), v, u]) ∧ IsTh H v p.2.1 ∧ IsTh H u p.2.2
theorem TlAt.tups {H H' : Hp} (e : Tups H H') {xs : List V} {tl : Tl} (h : TlAt H xs tl) : TlAt H' xs tl := L2.Paired.mapP h fun x p ⟨a, v, u, h1, h2, h3, h4⟩ => ⟨a, v, u, h1, e _ _ h2, h3.tups e, h4.tups e⟩
def PrAt (H : Hp) : List V → List (Th × Th) → Prop := Paired fun x p => ∃ a v u, x = .ref a ∧ H a = some (.tup [v, u]) ∧ IsTh H v p.1 ∧ IsTh H u p.2
theorem PrAt.tups {H H' : Hp} (e : Tups H H') {xs : List V} {l : List (Th × Th)} (h : PrAt H xs l) : PrAt H' xs l := L2.Paired.mapP h fun x p ⟨a, v, u, h1, h2, h3, h4⟩ => ⟨a, v, u, h1, e _ _ h2, h3.tups e, h4.tups e⟩
theorem paired_get {α β : Type} {F : α → β → Prop} : ∀ {xs : List α} {ys : List β} {i : Nat} {x : α}, Paired F xs ys → xs[i]? = some x → ∃ y, ys[i]? = some y ∧ F x y
  | _, _, _, _, .nil, e => by simp at e
  | _, _, 0, _, .cons h _, e => by
    simp at e
    subst e
    exact ⟨_, rfl, h⟩
  | _, _, i + 1, _, .cons _ t, e => by
    obtain ⟨y, h1, h2⟩ := paired_get (i := i) t (by simpa using e)
    exact ⟨y, by simpa using h1, h2⟩
theorem paired_app {α β : Type} {F : α → β → Prop} : ∀ {a b : List α} {c d : List β}, Paired F a c → Paired F b d → Paired F (a ++ b) (c ++ d)
  | _, _, _, _, .nil, t => t
  | _, _, _, _, .cons h r, t => .cons h (paired_app r t)
/-- the same pairs -/
def sames (tl : Tl) : List (Th × Th) := (tl.filter (·.1)).map (·.2)
theorem mem_sames {tl : Tl} {a b : Th} : (a, b) ∈ sames tl ↔ (true, a, b) ∈ tl := by
  unfold sames
  rw [List.mem_map]
  constructor
  · rintro ⟨⟨c, x⟩, h, e⟩
    rw [List.mem_filter] at h
    obtain ⟨h1, h2⟩ := h
    have : c = true := h2
    subst this
    cases e
    exact h1
  · intro h
    exact ⟨(true, a, b), List.mem_filter.mpr ⟨h, rfl⟩, rfl⟩
/-- the classes of what is told, with some more things -/
def spClasses (P : Program) (w : World) : Sp := fun vs H Q _ => ∃ (a b : Addr) (us vs' : List V) (tl : Tl) (ts : List Th), vs = [.ref a, .ref b] ∧ H a = some (.lst us) ∧ TlAt H us tl ∧ H b = some (.lst vs') ∧ AreTh H vs' ts ∧
  (∀ t ∈ ts, t.ok = true ∧ t.depth ≤ 8) ∧ (∀ p ∈ tl, (p.2.1.ok = true ∧ p.2.1.depth ≤ 8) ∧ p.2.2.ok = true ∧ p.2.2.depth ≤ 8) ∧ sizeL ts + sizeL (tl.map (·.2.1)) + sizeL (tl.map (·.2.2)) ≤ 3000 ∧
  ∀ (d : Addr) (S : List Th) (L : Th → Int) (H' : Hp), Same H H' → H d = none → Num P w H' d S L → Tells tl S L → (∀ t ∈ ts, t ∈ S) → (∀ p ∈ tl, p.2.1 ∈ S ∧ p.2.2 ∈ S) → Q (.ref d) H'
end Sb

set_option Elab.async false
set_option linter.all false
set_option maxRecDepth 100000
namespace L2
open PySem PySem.Spec PyProof.Rows
/-- a comprehension over a list, with a test -/
theorem comp_listIf {K : PySem.W.Frag} {a p : Addr} {xs : List V} {g : TG} {tt : TT} {te : TE} {Q : Hp → Prop} {σ0 : St} {H0 : Hp} (hxs : xs.length ≤ sizeLine) (Pv : Nat → List V → St → Hp → Prop) (h0 : Pv 0 [] σ0 (upd H0 p (.lst [])))
    (hl : ∀ i ys σ H, i ≤ xs.length → Pv i ys σ H → SqL K H a xs)
    (hs : ∀ i x ys σ H, xs[i]? = some x → Pv i ys σ H → H p = some (.lst ys) → g x σ H fun σ2 H2 => tt σ2 H2 fun b H3 => if b = true then te σ2 H3 fun v H4 => H4 p = some (.lst ys) ∧ Pv (i + 1) (ys ++ [v]) σ2 (upd H4 p (.lst (ys ++ [v]))) else H3 p = some (.lst ys) ∧ Pv (i + 1) ys σ2 H3)
    (hd : ∀ ys σ H, Pv xs.length ys σ H → H p = some (.lst ys) → Q H) : CompW p (Itl K a) g tt te Q σ0 (upd H0 p (.lst [])) := by
  refine ⟨fun i m σ H => m = xs.length - i ∧ i ≤ xs.length ∧ ∃ ys, ys.length ≤ i ∧ Pv i ys σ H ∧ H p = some (.lst ys), ⟨xs.length, by simp, Nat.zero_le _, [], Nat.le_refl _, h0, upd_same⟩, ?_⟩
  rintro i m σ H ⟨rfl, hi, ys, hy, pv, hp⟩
  have q := hl i ys σ H hi pv
  by_cases hlt : i < xs.length
  · refine .inr ⟨⟨xs, xs[i], q, by simp [hlt]⟩, fun v σ' H' => H' p = some (.lst ys) ∧ Pv (i + 1) (ys ++ [v]) σ' (upd H' p (.lst (ys ++ [v]))), fun σ' H' => H' p = some (.lst ys) ∧ Pv (i + 1) ys σ' H',
      fun v σ' H' ⟨e1, e2⟩ => ⟨ys, e1, by omega, xs.length - (i + 1), by omega, rfl, hlt, ys ++ [v], by simp [hy], e2, upd_same⟩, fun σ' H' ⟨e1, e2⟩ => ⟨xs.length - (i + 1), by omega, rfl, hlt, ys, by omega, e2, e1⟩, fun x H' y => ?_⟩
    obtain ⟨e, y⟩ := y
    subst e
    exact hs i x ys σ _ (y xs q) pv hp
  · have e : i = xs.length := by omega
    subst e
    exact .inl ⟨⟨xs, q, Nat.le_refl _⟩, hd ys σ H pv hp⟩
/-- from what to what -/
def Tr (t : TS) (pre post : St → Hp → Prop) : Prop := ∀ D σ H, pre σ H → (∀ σ' H', post σ' H' → D.nx σ' H') → t D σ H
/-- all stays but at d -/
def But (d : Addr) (H H' : Hp) : Prop := ∀ c o, H c = some o → c ≠ d → H' c = some o
theorem But.refl {d : Addr} {H : Hp} : But d H H := fun _ _ e _ => e
theorem But.trans {d : Addr} {H H1 H2 : Hp} (a : But d H H1) (b : But d H1 H2) : But d H H2 := fun c o e h => b c o (a c o e h) h
theorem But.of {d : Addr} {H H1 : Hp} (e : Same H H1) : But d H H1 := fun c o h _ => e c o h
end L2
namespace Sb
open PySem PySem.Spec PyProof.Rows L2
theorem _root_.L2.But.tups {d : Addr} {H H' : Hp} {o : HO} (b : But d H H') (h : H d = some o) (ho : ∀ xs, o ≠ .tup xs) : Tups H H' := fun c xs e => b c _ e fun z => by subst z; rw [h] at e; exact ho xs (Option.some.inj e)
theorem Num.congr {P : Program} {w : World} {H : Hp} {d : Addr} {S : List Th} {L L' : Th → Int} (N : Num P w H d S L) (e : ∀ t ∈ S, L t = L' t) : Num P w H d S L' := by
  obtain ⟨kvs, h1, h2, h3, h4⟩ := N.ex
  exact ⟨⟨kvs, h1, h2, h3, fun t ht => by rw [← e t ht]; exact h4 t ht⟩, N.ok⟩
/-! ### how many pairs are told apart -/
theorem countP_le {α : Type} {p q : α → Bool} : ∀ {l : List α}, (∀ x ∈ l, p x = true → q x = true) → l.countP p ≤ l.countP q
  | [], _ => by simp
  | x :: l, h => by
    have ih := countP_le (l := l) fun y hy => h y (List.mem_cons_of_mem _ hy)
    have h1 := h x List.mem_cons_self
    rw [List.countP_cons, List.countP_cons]
    cases e1 : p x with
    | true => rw [h1 e1]; simp; exact ih
    | false => simp; omega
theorem countP_lt {α : Type} {p q : α → Bool} : ∀ {l : List α}, (∀ x ∈ l, p x = true → q x = true) → (∃ x ∈ l, q x = true ∧ p x = false) → l.countP p < l.countP q
  | [], _, ⟨x, hx, _⟩ => nomatch hx
  | x :: l, h, ⟨y, hy, e1, e2⟩ => by
    have hl : ∀ y ∈ l, p y = true → q y = true := fun y hy => h y (List.mem_cons_of_mem _ hy)
    have le := countP_le hl
    rw [List.countP_cons, List.countP_cons]
    rcases List.mem_cons.mp hy with z | z
    · subst z
      rw [e1, e2]
      simp
      omega
    · have ih := countP_lt hl ⟨y, z, e1, e2⟩
      have h1 := h x List.mem_cons_self
      cases e3 : p x with
      | true => rw [h1 e3]; simp; exact ih
      | false => simp; omega
def dis (S : List Th) (L : Th → Int) : Nat := (S.flatMap fun x => S.map fun y => (x, y)).countP fun p => decide (L p.1 ≠ L p.2)
theorem dis_lt {S : List Th} {L L' : Th → Int} (h : ∀ x ∈ S, ∀ y ∈ S, L x = L y → L' x = L' y) (h2 : ∃ x ∈ S, ∃ y ∈ S, L x ≠ L y ∧ L' x = L' y) : dis S L' < dis S L := by
  obtain ⟨x, hx, y, hy, e1, e2⟩ := h2
  refine countP_lt (fun p hp e => ?_) ⟨(x, y), ?_, decide_eq_true e1, by simp [e2]⟩
  · rw [List.mem_flatMap] at hp
    obtain ⟨x, hx, hp⟩ := hp
    obtain ⟨y, hy, rfl⟩ := List.mem_map.mp hp
    exact decide_eq_true fun z => (of_decide_eq_true e) (h x hx y hy z)
  · rw [List.mem_flatMap]
    exact ⟨x, hx, List.mem_map.mpr ⟨y, hy, rfl⟩⟩
end Sb
namespace Sb
open PySem PySem.Spec PyProof.Rows L2
/-! ### lists of numbers as data -/
theorem dts_ints {H : Hp} : ∀ l : List Int, Dts H (l.map V.int) (l.map PyData.int)
  | [] => .nil
  | i :: r => .cons (.int i) (dts_ints r)
theorem lay_ints : ∀ l : List Int, PyData.canLayAll0 (l.map PyData.int) = true
  | [] => by simp [PyData.canLayAll0]
  | i :: r => by simp [PyData.canLayAll0, PyData.canLay0, lay_ints r]
theorem depth_ints : ∀ l : List Int, PyData.depthAll (l.map PyData.int) ≤ 1
  | [] => by simp [PyData.depthAll]
  | i :: r => by
    have := depth_ints r
    simp only [List.map_cons, PyData.depthAll, PyData.depth]
    omega
theorem eqv_ints : ∀ l m : List Int, PyData.eqvAll (l.map PyData.int) (m.map PyData.int) = decide (l = m)
  | [], [] => by simp [PyData.eqvAll]
  | [], _ :: _ => by simp [PyData.eqvAll]
  | _ :: _, [] => by simp [PyData.eqvAll]
  | i :: l, j :: m => by
    simp only [List.map_cons, PyData.eqvAll, PyData.eqv, eqv_ints l m]
    by_cases h : i = j
    · subst h; simp
    · simp [h]
/-- [d[t] for t in ..] -/
theorem comp_nums {P : Program} {w : World} {K : PySem.W.Frag} {r p d : Addr} {us : List V} {ps S : List Th} {L : Th → Int} {H : Hp} {Q : Hp → Prop} (hr : H r = some (.tup us)) (hus : AreTh H us ps) (hsub : ∀ t ∈ ps, t ∈ S) (N : Num P w H d S L) (hp : H p = none) (hlen : us.length ≤ 3000)
    (q : ∀ H', Same H H' → H' p = some (.lst ((ps.map L).map V.int)) → Q H') : CompW p (Itt K r) (gName 0) tAll (tOp (rIxKD P w) (tVar 1) (tVar 0)) Q [none, some (.ref d)] (upd H p (.lst [])) := by
  refine comp_tup (K := K) (a := r) (xs := us) (small (by omega)) (fun i ys σ H1 => (∃ x0, σ = [x0, some (.ref d)]) ∧ ys = ((ps.take i).map L).map V.int ∧ H1 = upd H p (.lst ys)) ⟨⟨_, rfl⟩, by simp, rfl⟩ (fun i ys σ H1 _ ⟨_, _, e⟩ => SqT.of (by rw [e]; exact same_new hp _ _ _ hr)) ?_ ?_
  · rintro i x ys σ H1 hi hyl ⟨⟨x0, rfl⟩, rfl, rfl⟩ hp1
    obtain ⟨t, ht, hx⟩ := hus.get hi
    obtain ⟨b, _, _, _, rfl, _, _, _⟩ := hx.inv
    have s1 := same_new hp (.lst (((ps.take i).map L).map V.int))
    refine ⟨_, rfl, _, rfl, (N.same s1).get (hsub t (List.mem_of_getElem? ht)) (hx.same s1) ⟨hp1, ⟨_, rfl⟩, ?_, ?_⟩⟩
    · rw [List.take_add_one, ht]; simp
    · rw [upd_upd]
  · rintro ys σ H1 hyl ⟨_, rfl, rfl⟩ hp1
    rw [hus.length, List.take_length] at hp1 ⊢
    exact q _ (same_new hp _) hp1
end Sb

set_option Elab.async false
set_option linter.all false
set_option maxRecDepth 100000
/-! Deeds, over the heap. -/
namespace Sb
open PySem PySem.Spec PyProof.Rows L2
inductive Dd where
  | tell (b : Bool) (x y : Th)
  | ask (x y : Th)
  | back (i : Int)
def Dd.fits (ts : List Th) : Dd → Prop
  | .tell _ x y => x ∈ ts ∧ y ∈ ts
  | .ask x y => x ∈ ts ∧ y ∈ ts
  | .back _ => True
def DdAt (H : Hp) (x : V) : Dd → Prop
  | .tell b t u => ∃ a v1 v2, x = .ref a ∧ H a = some (.tup [.str (tw b), v1, v2]) ∧ IsTh H v1 t ∧ IsTh H v2 u
  | .ask t u => ∃ a v1 v2, x = .ref a ∧ H a = some (.tup [.str "ask", v1, v2]) ∧ IsTh H v1 t ∧ IsTh H v2 u
  | .back i => ∃ a, x = .ref a ∧ H a = some (.tup [.str "back", .int i])
theorem DdAt.tups {H H' : Hp} (e : Tups H H') {x : V} : ∀ {d : Dd}, DdAt H x d → DdAt H' x d
  | .tell _ _ _, ⟨a, v1, v2, h1, h2, h3, h4⟩ => ⟨a, v1, v2, h1, e _ _ h2, h3.tups e, h4.tups e⟩
  | .ask _ _, ⟨a, v1, v2, h1, h2, h3, h4⟩ => ⟨a, v1, v2, h1, e _ _ h2, h3.tups e, h4.tups e⟩
  | .back _, ⟨a, h1, h2⟩ => ⟨a, h1, e _ _ h2⟩
def DdsAt (H : Hp) : List V → List Dd → Prop := Paired fun x d => DdAt H x d
theorem DdsAt.tups {H H' : Hp} (e : Tups H H') {xs : List V} {ds : List Dd} (h : DdsAt H xs ds) : DdsAt H' xs ds := L2.Paired.mapP h fun _ _ h => h.tups e
theorem DdsAt.same {H H' : Hp} (e : Same H H') {xs : List V} {ds : List Dd} (h : DdsAt H xs ds) : DdsAt H' xs ds := h.tups (Tups.of e)
/-- the deeds that a script draws -/
def spDeeds (K : PySem.W.Frag) : Sp := fun vs H Q _ => ∃ (a b : Addr) (ns : List Int) (us : List V) (ts : List Th), vs = [.ref a, .ref b] ∧ SqL K H a (ns.map V.int) ∧ ns.length ≤ 63 ∧ H b = some (.lst us) ∧ AreTh H us ts ∧ 0 < ts.length ∧ ts.length ≤ 1000 ∧
  ∀ (r : Addr) (es : List V) (dl : List Dd) (H' : Hp), Same H H' → H r = none → H' r = some (.lst es) → DdsAt H' es dl → dl.length = ns.length → (∀ d ∈ dl, d.fits ts) → Q (.ref r) H'
def spAny : Sp := fun vs H Q _ => ∃ n : Int, vs = [.int n] ∧ ∀ (m : Int) (H' : Hp), Same H H' → Q (.int m) H'
def spRoom (K : PySem.W.Frag) : Sp := fun vs H Q _ => ∃ (a : Addr) (ns : List Int) (m b : Int), vs = [.ref a, .int m, .int b] ∧ SqL K H a (ns.map V.int) ∧ ns.length ≤ 63 ∧ Q (.int m) H
end Sb
namespace Sb
open PySem PySem.Spec PyProof.Rows L2
/-! ### what a book answers -/
def KindIs (tl : Tl) (x y : Th) (k : Str) : Prop := (k = "equal" ∧ Cg tl x y) ∨ (k = "unlike" ∧ ¬ Cg tl x y ∧ ∃ a b, (false, a, b) ∈ tl ∧ Cg (tl ++ [(true, x, y)]) a b) ∨ (k = "open" ∧ ¬ Cg tl x y ∧ ∀ a b, (false, a, b) ∈ tl → ¬ Cg (tl ++ [(true, x, y)]) a b)
def Barred (tl : Tl) : Prop := ∃ a b, (false, a, b) ∈ tl ∧ Cg tl a b
def spKind : Sp := fun vs H Q _ => ∃ (a : Addr) (us : List V) (tl : Tl) (v1 v2 : V) (x y : Th), vs = [.ref a, v1, v2] ∧ H a = some (.lst us) ∧ TlAt H us tl ∧ IsTh H v1 x ∧ IsTh H v2 y ∧ (x.ok = true ∧ x.depth ≤ 8) ∧ (y.ok = true ∧ y.depth ≤ 8) ∧
  (∀ p ∈ tl, (p.2.1.ok = true ∧ p.2.1.depth ≤ 8) ∧ p.2.2.ok = true ∧ p.2.2.depth ≤ 8) ∧ sizeL (tl.map (·.2.1)) + sizeL (tl.map (·.2.2)) + x.size + y.size ≤ 3000 ∧ ∀ (k : Str) (H' : Hp), Same H H' → KindIs tl x y k → Q (.str k) H'
def spBarred : Sp := fun vs H Q _ => ∃ (a e : Addr) (us : List V) (tl : Tl) (v1 v2 : V) (b : Bool) (x y : Th), vs = [.ref a, .ref e] ∧ H a = some (.lst us) ∧ TlAt H us tl ∧ H e = some (.tup [.str (tw b), v1, v2]) ∧ IsTh H v1 x ∧ IsTh H v2 y ∧ (x.ok = true ∧ x.depth ≤ 8) ∧ (y.ok = true ∧ y.depth ≤ 8) ∧
  (∀ p ∈ tl, (p.2.1.ok = true ∧ p.2.1.depth ≤ 8) ∧ p.2.2.ok = true ∧ p.2.2.depth ≤ 8) ∧ sizeL (tl.map (·.2.1)) + sizeL (tl.map (·.2.2)) + x.size + y.size ≤ 3000 ∧ ∀ (r : Bool) (H' : Hp), Same H H' → (r = true ↔ Barred (tl ++ [(b, x, y)])) → Q (.bl r) H'
open Classical in
noncomputable def kindOf (tl : Tl) (x y : Th) : Str := if Cg tl x y then "equal" else if ∃ a b, (false, a, b) ∈ tl ∧ Cg (tl ++ [(true, x, y)]) a b then "unlike" else "open"
theorem KindIs.eq {tl : Tl} {x y : Th} {k : Str} (h : KindIs tl x y k) : k = kindOf tl x y := by
  unfold kindOf
  rcases h with ⟨e, c⟩ | ⟨e, c, d⟩ | ⟨e, c, d⟩
  · rw [if_pos c, e]
  · rw [if_neg c, if_pos d, e]
  · rw [if_neg c, if_neg (fun ⟨a, b, h1, h2⟩ => d a b h1 h2), e]
open Classical in
/-- one deed: what is told behind it, and the answer's word or number -/
noncomputable def stp (tl : Tl) : Dd → Tl × V
  | .ask x y => (tl, .str (kindOf tl x y))
  | .back i => if 0 ≤ i ∧ i ≤ (tl.length : Int) then (tl.take i.toNat, .int ((tl.length : Int) - i)) else (tl, .str "no moment")
  | .tell b x y => if Barred (tl ++ [(b, x, y)]) then (tl, .str "clash") else (tl ++ [(b, x, y)], .int ((tl.length : Int) + 1))
noncomputable def after (tl : Tl) : List Dd → Tl
  | [] => tl
  | d :: ds => after (stp tl d).1 ds
noncomputable def heads (tl : Tl) : List Dd → List V
  | [] => []
  | d :: ds => (stp tl d).2 :: heads (stp tl d).1 ds
theorem after_append (tl : Tl) : ∀ (ds es : List Dd), after tl (ds ++ es) = after (after tl ds) es
  | [], es => rfl
  | d :: ds, es => after_append (stp tl d).1 ds es
theorem after_take {tl : Tl} {ds : List Dd} {k : Nat} {d : Dd} (h : ds[k]? = some d) : after tl (ds.take (k + 1)) = (stp (after tl (ds.take k)) d).1 := by
  rw [List.take_add_one, h, after_append]
  rfl
theorem heads_len (tl : Tl) : ∀ ds : List Dd, (heads tl ds).length = ds.length
  | [] => rfl
  | d :: ds => by simp only [heads, List.length_cons, heads_len (stp tl d).1 ds]
theorem heads_get : ∀ {ds : List Dd} {tl : Tl} {k : Nat} {d : Dd}, ds[k]? = some d → (heads tl ds)[k]? = some (stp (after tl (ds.take k)) d).2
  | [], _, _, _, h => by simp at h
  | e :: ds, tl, 0, d, h => by
    simp at h
    subst h
    rfl
  | e :: ds, tl, k + 1, d, h => by
    have ih := heads_get (ds := ds) (tl := (stp tl e).1) (k := k) (d := d) (by simpa using h)
    simp only [heads, List.getElem?_cons_succ, List.take_succ_cons, after]
    exact ih
/-! ### sizes -/
def Th.good (t : Th) : Prop := t.ok = true ∧ t.depth ≤ 8 ∧ t.size ≤ 100
def Dd.good : Dd → Prop
  | .tell _ x y => x.good ∧ y.good
  | .ask x y => x.good ∧ y.good
  | .back _ => True
def Tlg (tl : Tl) : Prop := ∀ p ∈ tl, p.2.1.good ∧ p.2.2.good
theorem stp_good {tl : Tl} {d : Dd} (h : Tlg tl) (g : d.good) : Tlg (stp tl d).1 := by
  cases d with
  | ask x y => exact h
  | back i =>
    simp only [stp]
    split
    · exact fun p hp => h p (List.mem_of_mem_take hp)
    · exact h
  | tell b x y =>
    simp only [stp]
    split
    · exact h
    · intro p hp
      rcases List.mem_append.mp hp with z | z
      · exact h p z
      · rw [List.mem_singleton] at z
        subst z
        exact g
theorem stp_len {tl : Tl} {d : Dd} : (stp tl d).1.length ≤ tl.length + 1 := by
  cases d with
  | ask x y => exact Nat.le_succ _
  | back i =>
    simp only [stp]
    split
    · rw [List.length_take]; omega
    · exact Nat.le_succ _
  | tell b x y =>
    simp only [stp]
    split
    · exact Nat.le_succ _
    · rw [List.length_append, List.length_singleton]; omega
theorem after_good : ∀ {ds : List Dd} {tl : Tl}, Tlg tl → (∀ d ∈ ds, d.good) → Tlg (after tl ds)
  | [], _, h, _ => h
  | d :: ds, tl, h, g => by
    have := after_good (ds := ds) (tl := (stp tl d).1) (stp_good h (g d List.mem_cons_self)) fun e he => g e (List.mem_cons_of_mem _ he)
    simp only [after]
    exact this
theorem after_len : ∀ {ds : List Dd} {tl : Tl}, (after tl ds).length ≤ tl.length + ds.length
  | [], tl => Nat.le_refl _
  | d :: ds, tl => by
    have h1 := after_len (ds := ds) (tl := (stp tl d).1)
    have h2 := stp_len (tl := tl) (d := d)
    simp only [after, List.length_cons]
    omega
theorem tlg_size {tl : Tl} (h : Tlg tl) : sizeL (tl.map (·.2.1)) ≤ tl.length * 100 ∧ sizeL (tl.map (·.2.2)) ≤ tl.length * 100 := by
  have h1 := sizeL_bound (tl.map (·.2.1)) 100 fun t ht => by
    obtain ⟨p, hp, rfl⟩ := List.mem_map.mp ht
    exact (h p hp).1.2.2
  have h2 := sizeL_bound (tl.map (·.2.2)) 100 fun t ht => by
    obtain ⟨p, hp, rfl⟩ := List.mem_map.mp ht
    exact (h p hp).2.2.2
  rw [List.length_map] at h1 h2
  exact ⟨h1, h2⟩
/-! ### deeds as data -/
def tlD (p : Bool × Th × Th) : PyData := .tuple [.str (tw p.1), p.2.1.toD, p.2.2.toD]
def ddD : Dd → PyData
  | .tell b x y => tlD (b, x, y)
  | .ask x y => .tuple [.str "ask", x.toD, y.toD]
  | .back i => .tuple [.str "back", .int i]
theorem DdAt.dt {H : Hp} {x : V} : ∀ {d : Dd}, DdAt H x d → Dt H x (ddD d)
  | .tell _ _ _, ⟨a, v1, v2, h1, h2, h3, h4⟩ => by subst h1; exact .tup h2 (.cons (.str _) (.cons h3.dt (.cons h4.dt .nil)))
  | .ask _ _, ⟨a, v1, v2, h1, h2, h3, h4⟩ => by subst h1; exact .tup h2 (.cons (.str _) (.cons h3.dt (.cons h4.dt .nil)))
  | .back _, ⟨a, h1, h2⟩ => by subst h1; exact .tup h2 (.cons (.str _) (.cons (.int _) .nil))
theorem DdsAt.dts {H : Hp} {xs : List V} {ds : List Dd} (h : DdsAt H xs ds) : Dts H xs (ds.map ddD) := by
  unfold DdsAt at h
  induction h with
  | nil => exact .nil
  | cons h r ih => exact .cons h.dt ih
theorem TlAt.dts {H : Hp} {xs : List V} {tl : Tl} (h : TlAt H xs tl) : Dts H xs (tl.map tlD) := by
  unfold TlAt at h
  induction h with
  | nil => exact .nil
  | cons h r ih =>
    obtain ⟨a, v, u, e1, e2, e3, e4⟩ := h
    subst e1
    exact .cons (.tup e2 (.cons (.str _) (.cons e3.dt (.cons e4.dt .nil)))) ih
def Rdy (d : PyData) : Prop := d.canLay0 = true ∧ nodes d ≤ 1000 ∧ d.depth ≤ 20
theorem rdy_list {ds : List PyData} (h : ∀ d ∈ ds, Rdy d) (hl : ds.length ≤ 100) : (PyData.list ds).canLay0 = true ∧ nodes (PyData.list ds) ≤ 1000000 ∧ (PyData.list ds).depth ≤ 60 := by
  have all : PyData.canLayAll0 ds = true ∧ nodesL ds ≤ ds.length * 1000 ∧ PyData.depthAll ds ≤ 20 := by
    clear hl
    induction ds with
    | nil => simp [PyData.canLayAll0, nodesL, PyData.depthAll]
    | cons d r ih =>
      obtain ⟨h1, h2, h3⟩ := h d List.mem_cons_self
      obtain ⟨i1, i2, i3⟩ := ih fun e he => h e (List.mem_cons_of_mem _ he)
      refine ⟨by simp [PyData.canLayAll0, h1, i1], ?_, ?_⟩
      · simp only [nodesL, List.length_cons]; omega
      · simp only [PyData.depthAll]; omega
  refine ⟨by simp only [PyData.canLay0]; exact all.1, ?_, ?_⟩
  · simp only [nodes]; omega
  · simp only [PyData.depth]; omega
theorem tw_ok (b : Bool) : PyData.strOk (tw b) = true := by cases b <;> decide +kernel
theorem three_rdy {s : Str} {x y : Th} (hs : PyData.strOk s = true) (hx : x.good) (hy : y.good) : Rdy (.tuple [.str s, x.toD, y.toD]) := by
  have h1 := lay_of x hx.1
  have h2 := lay_of y hy.1
  have n1 := nodes_th x
  have n2 := nodes_th y
  have d1 := depth_toD x
  have d2 := depth_toD y
  have := hx.2
  have := hy.2
  refine ⟨by simp [PyData.canLay0, PyData.canLayAll0, h1, h2, hs], ?_, ?_⟩
  · simp only [nodes, nodesL]; omega
  · simp only [PyData.depth, PyData.depthAll]; omega
theorem ddD_rdy : ∀ {d : Dd}, d.good → Rdy (ddD d)
  | .tell b x y, h => three_rdy (tw_ok b) h.1 h.2
  | .ask x y, h => three_rdy (by decide +kernel) h.1 h.2
  | .back i, _ => ⟨by simp [ddD, PyData.canLay0, PyData.canLayAll0]; decide +kernel, by simp [ddD, nodes, nodesL], by simp [ddD, PyData.depth, PyData.depthAll]⟩
theorem tlD_rdy {tl : Tl} (h : Tlg tl) : ∀ d ∈ tl.map tlD, Rdy d := fun d hd => by
  obtain ⟨p, hp, rfl⟩ := List.mem_map.mp hd
  exact three_rdy (tw_ok p.1) (h p hp).1 (h p hp).2
/-! ### the program's two -/
/-- an answer, by its word or number -/
def HeadIs (H : Hp) (v : V) (h : V) : Prop := v = h ∨ ∃ a xs, v = .ref a ∧ H a = some (.tup (h :: xs))
/-- a world of things to speak of: few, small, with all that is in them -/
structure Univ (U : List Th) : Prop where
  cl : Closed U
  good : ∀ t ∈ U, t.good
  len : U.length ≤ 60
theorem Univ.deed {U : List Th} (h : Univ U) {d : Dd} (f : d.fits U) : d.good := by
  cases d with
  | tell b x y => exact ⟨h.good x f.1, h.good y f.2⟩
  | ask x y => exact ⟨h.good x f.1, h.good y f.2⟩
  | back i => exact True.intro
def spAnswers : Sp := fun vs H Q _ => ∃ (a : Addr) (es : List V) (dl : List Dd) (U : List Th), vs = [.ref a] ∧ H a = some (.lst es) ∧ DdsAt H es dl ∧ Univ U ∧ (∀ d ∈ dl, d.fits U) ∧ dl.length ≤ 10 ∧
  ∀ (r : Addr) (rs : List V) (H' : Hp), Same H H' → H' r = some (.lst rs) → Paired (HeadIs H') rs (heads [] dl) → Q (.ref r) H'
def spTold : Sp := fun vs H Q _ => ∃ (a : Addr) (es : List V) (dl : List Dd) (U : List Th), vs = [.ref a] ∧ H a = some (.lst es) ∧ DdsAt H es dl ∧ Univ U ∧ (∀ d ∈ dl, d.fits U) ∧ dl.length ≤ 10 ∧
  ∀ (r : Addr) (rs : List V) (H' : Hp), Same H H' → H' r = some (.lst rs) → TlAt H' rs (after [] dl) → Q (.ref r) H'
/-- closed where the parts are in it -/
theorem closed_parts {ts : List Th} (h : ∀ t ∈ ts, ∀ p ∈ t.parts, p ∈ ts) : Closed ts := by
  have key : ∀ n : Nat, ∀ t ∈ ts, t.depth ≤ n → ∀ s ∈ t.inside, s ∈ ts := by
    intro n
    induction n with
    | zero => intro t _ hd; have := depth_pos t; omega
    | succ n ih =>
      intro t ht hd s hs
      cases t with
      | mk u ps =>
        simp only [Th.inside, List.mem_append, List.mem_singleton] at hs
        rcases hs with hs | rfl
        · rw [insideL_flat, List.mem_flatMap] at hs
          obtain ⟨p, hp, hs⟩ := hs
          have := depthL_mem hp
          simp only [Th.depth] at hd
          exact ih p (h _ ht p hp) (by omega) s hs
        · exact ht
  exact fun t ht => key _ t ht (Nat.le_refl _)
end Sb

set_option Elab.async false
set_option linter.all false
set_option maxRecDepth 100000
/-! Order, sides and words make no difference. -/
namespace Sb
open PySem PySem.Spec PyProof.Rows L2
theorem ite3 {A A' B B' : Prop} [Decidable A] [Decidable A'] [Decidable B] [Decidable B'] {x y z : Str} (h1 : A = A') (h2 : B = B') : (if A then x else if B then y else z) = (if A' then x else if B' then y else z) := by
  subst h1 h2
  by_cases a : A
  · rw [if_pos a, if_pos a]
  · by_cases b : B
    · rw [if_neg a, if_neg a, if_pos b, if_pos b]
    · rw [if_neg a, if_neg a, if_neg b, if_neg b]
mutual
def Th.ren (φ : Str → Str) : Th → Th
  | .mk w ps => .mk (φ w) (renL φ ps)
def renL (φ : Str → Str) : List Th → List Th
  | [] => []
  | p :: r => p.ren φ :: renL φ r
end
def renT (φ : Str → Str) (p : Bool × Th × Th) : Bool × Th × Th := (p.1, p.2.1.ren φ, p.2.2.ren φ)
mutual
theorem Cg.ren {tl : Tl} (φ : Str → Str) : ∀ {s t : Th}, Cg tl s t → Cg (tl.map (renT φ)) (s.ren φ) (t.ren φ)
  | _, _, .refl t => .refl _
  | _, _, .symm c => .symm (Cg.ren φ c)
  | _, _, .trans c d => .trans (Cg.ren φ c) (Cg.ren φ d)
  | _, _, .told m => .told (List.mem_map.mpr ⟨_, m, rfl⟩)
  | _, _, .cong c => by simp only [Th.ren]; exact .cong (CgL.ren φ c)
theorem CgL.ren {tl : Tl} (φ : Str → Str) : ∀ {s t : List Th}, CgL tl s t → CgL (tl.map (renT φ)) (renL φ s) (renL φ t)
  | _, _, .nil => by simp only [renL]; exact .nil
  | _, _, .cons c d => by simp only [renL]; exact .cons (Cg.ren φ c) (CgL.ren φ d)
end
mutual
theorem ren_back {φ ψ : Str → Str} (h : ∀ w, ψ (φ w) = w) : ∀ t : Th, (t.ren φ).ren ψ = t
  | .mk w ps => by simp only [Th.ren, h, renL_back h ps]
theorem renL_back {φ ψ : Str → Str} (h : ∀ w, ψ (φ w) = w) : ∀ ts : List Th, renL ψ (renL φ ts) = ts
  | [] => by simp only [renL]
  | t :: r => by simp only [renL, ren_back h t, renL_back h r]
end
theorem renT_back {φ ψ : Str → Str} (h : ∀ w, ψ (φ w) = w) (tl : Tl) : (tl.map (renT φ)).map (renT ψ) = tl := by
  rw [List.map_map]
  have : (renT ψ ∘ renT φ) = id := funext fun ⟨b, x, y⟩ => by simp only [Function.comp, renT, ren_back h, id]
  rw [this, List.map_id]
theorem cg_ren {φ ψ : Str → Str} (h : ∀ w, ψ (φ w) = w) {tl : Tl} {x y : Th} : Cg (tl.map (renT φ)) (x.ren φ) (y.ren φ) ↔ Cg tl x y := by
  constructor
  · intro c
    have := Cg.ren ψ c
    rw [renT_back h, ren_back h, ren_back h] at this
    exact this
  · exact Cg.ren φ
theorem ren_inj {φ ψ : Str → Str} (h : ∀ w, ψ (φ w) = w) {x y : Th} (e : x.ren φ = y.ren φ) : x = y := by rw [← ren_back h x, e, ren_back h]
theorem barred_ren {φ ψ : Str → Str} (h : ∀ w, ψ (φ w) = w) {tl : Tl} : Barred (tl.map (renT φ)) ↔ Barred tl := by
  constructor
  · rintro ⟨a, b, m, c⟩
    obtain ⟨⟨d, x, y⟩, hm, e⟩ := List.mem_map.mp m
    simp only [renT, Prod.mk.injEq] at e
    obtain ⟨rfl, rfl, rfl⟩ := e
    exact ⟨x, y, hm, (cg_ren h).mp c⟩
  · rintro ⟨a, b, m, c⟩
    exact ⟨_, _, List.mem_map.mpr ⟨_, m, rfl⟩, (cg_ren h).mpr c⟩
theorem kindOf_ren {φ ψ : Str → Str} (h : ∀ w, ψ (φ w) = w) {tl : Tl} {x y : Th} : kindOf (tl.map (renT φ)) (x.ren φ) (y.ren φ) = kindOf tl x y := by
  unfold kindOf
  have e1 : Cg (tl.map (renT φ)) (x.ren φ) (y.ren φ) = Cg tl x y := propext (cg_ren h)
  have e2 : (∃ a b, (false, a, b) ∈ tl.map (renT φ) ∧ Cg (tl.map (renT φ) ++ [(true, x.ren φ, y.ren φ)]) a b) = (∃ a b, (false, a, b) ∈ tl ∧ Cg (tl ++ [(true, x, y)]) a b) := by
    have el : tl.map (renT φ) ++ [(true, x.ren φ, y.ren φ)] = (tl ++ [(true, x, y)]).map (renT φ) := by rw [List.map_append]; rfl
    rw [el]
    refine propext ⟨?_, ?_⟩
    · rintro ⟨a, b, m, c⟩
      obtain ⟨⟨d, u, v⟩, hm, e⟩ := List.mem_map.mp m
      simp only [renT, Prod.mk.injEq] at e
      obtain ⟨rfl, rfl, rfl⟩ := e
      exact ⟨u, v, hm, (cg_ren h).mp c⟩
    · rintro ⟨a, b, m, c⟩
      exact ⟨_, _, List.mem_map.mpr ⟨_, m, rfl⟩, (cg_ren h).mpr c⟩
  exact @ite3 _ _ _ _ (Classical.propDecidable _) (Classical.propDecidable _) (Classical.propDecidable _) (Classical.propDecidable _) _ _ _ e1 e2
/-! ### the same told in another order, sides turned -/
def Sub (tl tl' : Tl) : Prop := ∀ b x y, (b, x, y) ∈ tl → (b, x, y) ∈ tl' ∨ (b, y, x) ∈ tl'
mutual
theorem Cg.sub {tl tl' : Tl} (h : Sub tl tl') : ∀ {s t : Th}, Cg tl s t → Cg tl' s t
  | _, _, .refl t => .refl t
  | _, _, .symm c => .symm (Cg.sub h c)
  | _, _, .trans c d => .trans (Cg.sub h c) (Cg.sub h d)
  | _, _, .told m => by
    rcases h _ _ _ m with z | z
    · exact .told z
    · exact .symm (.told z)
  | _, _, .cong c => .cong (CgL.sub h c)
theorem CgL.sub {tl tl' : Tl} (h : Sub tl tl') : ∀ {s t : List Th}, CgL tl s t → CgL tl' s t
  | _, _, .nil => .nil
  | _, _, .cons c d => .cons (Cg.sub h c) (CgL.sub h d)
end
theorem Sub.app {tl tl' : Tl} (h : Sub tl tl') {p q : Bool × Th × Th} (hp : q = p ∨ q = (p.1, p.2.2, p.2.1)) : Sub (tl ++ [p]) (tl' ++ [q]) := by
  intro b x y m
  rcases List.mem_append.mp m with m | m
  · rcases h b x y m with z | z
    · exact .inl (List.mem_append_left _ z)
    · exact .inr (List.mem_append_left _ z)
  · rw [List.mem_singleton] at m
    subst m
    rcases hp with rfl | rfl
    · exact .inl (List.mem_append_right _ List.mem_cons_self)
    · exact .inr (List.mem_append_right _ List.mem_cons_self)
theorem barred_sub {tl tl' : Tl} (h : Sub tl tl') (b : Barred tl) : Barred tl' := by
  obtain ⟨x, y, m, c⟩ := b
  rcases h _ _ _ m with z | z
  · exact ⟨x, y, z, c.sub h⟩
  · exact ⟨y, x, z, .symm (c.sub h)⟩
theorem kindOf_sub {tl tl' : Tl} (h : Sub tl tl') (h' : Sub tl' tl) {x y u v : Th} (e : (u, v) = (x, y) ∨ (u, v) = (y, x)) : kindOf tl x y = kindOf tl' u v := by
  unfold kindOf
  have e1 : Cg tl x y = Cg tl' u v := propext ⟨fun c => by
      rcases e with e | e
      · cases e; exact c.sub h
      · cases e; exact .symm (c.sub h), fun c => by
      rcases e with e | e
      · cases e; exact c.sub h'
      · cases e; exact .symm (c.sub h')⟩
  have a1 : Sub (tl ++ [(true, x, y)]) (tl' ++ [(true, u, v)]) := h.app (by rcases e with e | e <;> cases e <;> simp)
  have a2 : Sub (tl' ++ [(true, u, v)]) (tl ++ [(true, x, y)]) := h'.app (by rcases e with e | e <;> cases e <;> simp)
  have half : ∀ {t1 t2 : Tl} {p q : Bool × Th × Th}, Sub t1 t2 → Sub (t1 ++ [p]) (t2 ++ [q]) → (∃ a b, (false, a, b) ∈ t1 ∧ Cg (t1 ++ [p]) a b) → ∃ a b, (false, a, b) ∈ t2 ∧ Cg (t2 ++ [q]) a b := by
    rintro t1 t2 p q s1 s2 ⟨a, b, m, c⟩
    rcases s1 _ _ _ m with z | z
    · exact ⟨a, b, z, c.sub s2⟩
    · exact ⟨b, a, z, .symm (c.sub s2)⟩
  have e2 : (∃ a b, (false, a, b) ∈ tl ∧ Cg (tl ++ [(true, x, y)]) a b) = (∃ a b, (false, a, b) ∈ tl' ∧ Cg (tl' ++ [(true, u, v)]) a b) := propext ⟨half h a1, half h' a2⟩
  exact @ite3 _ _ _ _ (Classical.propDecidable _) (Classical.propDecidable _) (Classical.propDecidable _) (Classical.propDecidable _) _ _ _ e1 e2
theorem sub_take {tl : Tl} (n : Nat) : Sub (tl.take n) tl := fun _ _ _ m => .inl (List.mem_of_mem_take m)
theorem not_barred_nil : ¬ Barred [] := fun ⟨_, _, m, _⟩ => nomatch m
theorem stp_barred {tl : Tl} {d : Dd} (h : ¬ Barred tl) : ¬ Barred (stp tl d).1 := by
  cases d with
  | ask x y => exact h
  | back i =>
    simp only [stp]
    split
    · exact fun b => h (barred_sub (sub_take _) b)
    · exact h
  | tell b x y =>
    simp only [stp]
    split
    · exact h
    · rename_i z; exact z
theorem after_barred : ∀ {ds : List Dd} {tl : Tl}, ¬ Barred tl → ¬ Barred (after tl ds)
  | [], _, h => h
  | d :: ds, tl, h => by
    have := after_barred (ds := ds) (tl := (stp tl d).1) (stp_barred h)
    simp only [after]
    exact this
/-- a book to which all is told without a clash -/
def tellD (p : Bool × Th × Th) : Dd := .tell p.1 p.2.1 p.2.2
theorem tells_after : ∀ (more tl : Tl), ¬ Barred (tl ++ more) → after tl (more.map tellD) = tl ++ more ∧ heads tl (more.map tellD) = (List.range more.length).map fun k : Nat => V.int ((tl.length : Int) + (k : Int) + 1)
  | [], tl, _ => by simp [after, heads]
  | p :: more, tl, h => by
    obtain ⟨b, x, y⟩ := p
    have nb : ¬ Barred (tl ++ [(b, x, y)]) := fun z => h (barred_sub (fun c u v m => .inl (by
      rcases List.mem_append.mp m with m | m
      · exact List.mem_append_left _ m
      · rw [List.mem_singleton] at m
        rw [m]
        exact List.mem_append_right _ List.mem_cons_self)) z)
    have e : stp tl (.tell b x y) = (tl ++ [(b, x, y)], .int ((tl.length : Int) + 1)) := by simp only [stp]; rw [if_neg nb]
    have ea : tl ++ (b, x, y) :: more = (tl ++ [(b, x, y)]) ++ more := by simp
    rw [ea] at h ⊢
    obtain ⟨i1, i2⟩ := tells_after more (tl ++ [(b, x, y)]) h
    refine ⟨?_, ?_⟩
    · simp only [List.map_cons, tellD, after, e]
      exact i1
    · simp only [List.map_cons, tellD, heads, e]
      have i2' : heads (tl ++ [(b, x, y)]) (more.map tellD) = (List.range more.length).map fun k : Nat => V.int (((tl ++ [(b, x, y)]).length : Int) + (k : Int) + 1) := i2
      have u : (more.map fun p : Bool × Th × Th => Dd.tell p.1 p.2.1 p.2.2) = more.map tellD := rfl
      first
        | rw [u, i2']
        | rw [i2']
      rw [List.length_cons, List.range_succ_eq_map, List.map_cons, List.map_map]
      simp only [List.cons.injEq]
      refine ⟨by simp, List.map_congr_left fun k _ => ?_⟩
      simp only [Function.comp, V.int.injEq, List.length_append, List.length_singleton]
      omega
end Sb

set_option Elab.async false
set_option linter.all false
set_option maxRecDepth 100000
/-! reversed(list); a dict that gives things to things. -/
namespace L2
open PySem PySem.Spec PyProof.Rows
def ItRL (K : PySem.W.Frag) (a : Addr) (n : Nat) : It :=
  ⟨fun i H => ∃ xs, SqL K H a xs ∧ xs.length = n ∧ i < n, fun i H x H' => H' = H ∧ ∀ xs, SqL K H a xs → xs[n - 1 - i]? = some x, fun i _ => i = n⟩
theorem turn_revL {P : Program} {w : World} {K : PySem.W.Frag} {tg : Expr} (a it : Addr) (n : Nat) : Turn P w K tg (ItRL K a n) [it] it (fun i h => i ≤ n ∧ h.IsRevIter it a ((n : Int) - 1 - (i : Int))) where
  mem := by simp
  obj := fun i h st b hb => by
    have e : b = it := by simpa using hb
    subst e
    obtain ⟨_, o, e, c, d⟩ := st
    exact ⟨o, e, fun v z => by rw [d] at z; cases z⟩
  keep := fun i h h' st k => ⟨st.1, st.2.at fun o e => k it (by simp) o e⟩
  item := by
    intro X hP hw hK hc i pins s σ H E I hf st hg
    subst hP hw hK
    obtain ⟨xs, hq, hn, hi⟩ := hg
    obtain ⟨its, rv, p, hz⟩ := I.list hq
    have hl := rv.length
    have hx : xs[n - 1 - i]? = some (xs[n - 1 - i]'(by omega)) := List.getElem?_eq_getElem (by omega)
    obtain ⟨u, hu, ru⟩ := rv.get hx
    obtain ⟨f0, f1, f2, f3, f4, f5⟩ := hf it (by simp)
    have e : (n : Int) - 1 - (i : Int) = ((n - 1 - i : Nat) : Int) := by omega
    have hit := st.2
    rw [e] at hit
    refine wpAny_pyNext_rev_item hit p.isList (x := u) (by simpa using hu) fun h' st' sb => ?_
    have I1 : Inv X pins σ H { s with heap := h' } := I.turned (t' := s.toks) (fun b o hb e => (sb.2 b hb).trans e) f0 f1 f3 f4 f5
    have e2 : ((n - 1 - i : Nat) : Int) - 1 = (n : Int) - 1 - ((i + 1 : Nat) : Int) := by omega
    rw [e2] at st'
    obtain ⟨o, e3, c, d⟩ := id st'
    exact ⟨u, rfl, go_of (s := { s with heap := h' }) e3 c d (by decide) ⟨_, H, I1, ru, ⟨rfl, fun ys hy => by rw [I.list_inj hy hq]; exact hx⟩, ⟨hi, st'⟩, fun b hb => (hf b hb).1⟩⟩
  done := by
    intro X hP hw hK hc i pins s σ H E I hf st hg
    subst hP hw hK
    have hg : i = n := hg
    obtain ⟨f0, f1, f2, f3, f4, f5⟩ := hf it (by simp)
    have hit := st.2
    rw [show (n : Int) - 1 - (i : Int) = -1 by omega] at hit
    exact wpAny_pyNext_rev_end (I.ok.hd hc) hit fun h' eb => ⟨rfl, I.turned (t' := s.toks) (fun b o hb e => eb b o hb e) f0 f1 f3 f4 f5⟩
  self := fun _ _ _ _ _ st h => wpAny_pyIter_revIter st.2 h
def iRevL (K : PySem.W.Frag) (ta : TA) : TI := fun σ H R => ta σ H fun vs H1 => ∃ a xs, vs = [.ref a] ∧ SqL K H1 a xs ∧ R (ItRL K a xs.length) H1
section
variable {X : Cx} {tg : Expr}
theorem pi_revL {a : Expr} {ta : TA} {p pos : Pos} (hg : Gl X "reversed") (hm : X.mg "reversed" = none) (ha : PA X [a] ta) (hs : starEach [a] X.env = [(false, eval a X.env)] := by rfl) : PI X tg (.Call (.Name "reversed" p) [a] [] pos) (iRevL X.K ta) := by
  intro pins s σ H R I h
  refine Call_ (ld_blt I hg hm boot_reversed (PyProof.Rows.callWith_type1 (thn (ha pos pins s σ H _ I h) fun us s1 ⟨vs, H1, I1, r1, q1⟩ => ?_) hs rfl))
  obtain ⟨b, xs, e, hq, q⟩ := q1
  subst e
  obtain ⟨u, rfl, ru⟩ := vals1 r1
  cases (show u = Value.ref b from ru)
  obtain ⟨its, rv, pt, hz⟩ := I1.list hq
  have hl := rv.length
  refine call_reversed_list pt.isList ?_
  have I2 : Inv X pins σ H1 { s1 with heap := s1.heap.push (revObj b ((its.toArray.size : Int) - 1)) } := I1.kept (t' := s1.toks) fun b o e => Heap.get?_push_of_some _ e
  have st : (s1.heap.push (revObj b ((its.toArray.size : Int) - 1))).IsRevIter s1.heap.objs.size b ((xs.length : Int) - 1 - ((0 : Nat) : Int)) := by
    have e0 : (xs.length : Int) - 1 - ((0 : Nat) : Int) = (its.toArray.size : Int) - 1 := by rw [List.size_toArray]; omega
    rw [e0]
    exact ⟨_, Heap.get?_push_size _ rfl, rfl, rfl⟩
  refine wpAny_pyIter_revIter st ⟨s1.heap.objs.size, [s1.heap.objs.size], _, _, H1, rfl, I2, turn_revL b _ xs.length, ⟨Nat.zero_le _, st⟩, fun c hc => ?_, q⟩
  have e : c = s1.heap.objs.size := by simpa using hc
  subst e
  exact I1.fpOk (Nat.le_refl _) (I1.hok.fresh (Nat.le_refl _))
end
theorem for_revL {K : PySem.W.Frag} {a : Addr} {xs : List V} {g : TG} {tb : TS} {D : Ends} {σ : St} {H : Hp} (Pv : Nat → St → Hp → Prop) (h0 : Pv 0 σ H) (hl : ∀ i σ H, i ≤ xs.length → Pv i σ H → SqL K H a xs)
    (hs : ∀ i x σ H, xs.reverse[i]? = some x → Pv i σ H → g x σ H fun σ2 H2 => tb { D with nx := Pv (i + 1), ct := Pv (i + 1), bk := D.nx } σ2 H2) (hd : ∀ σ H, Pv xs.length σ H → D.nx σ H) :
    ∃ W : Nat → Nat → St → Hp → Prop, (∃ m, W 0 m σ H) ∧ ∀ i m σ H, W i m σ H →
      ((ItRL K a xs.length).stop i H ∧ D.nx σ H) ∨ ((ItRL K a xs.length).go i H ∧ ∃ N : St → Hp → Prop, (∀ σ' H', N σ' H' → ∃ m', m' < m ∧ W (i + 1) m' σ' H') ∧ ∀ x H', (ItRL K a xs.length).yld i H x H' → g x σ H' fun σ2 H2 => tb { D with nx := N, ct := N, bk := D.nx } σ2 H2) := by
  refine ⟨fun i m σ H => m = xs.length - i ∧ i ≤ xs.length ∧ Pv i σ H, ⟨xs.length, by simp, Nat.zero_le _, h0⟩, ?_⟩
  rintro i m σ H ⟨rfl, hi, p⟩
  have q := hl i σ H hi p
  by_cases hlt : i < xs.length
  · refine .inr ⟨⟨xs, q, rfl, hlt⟩, Pv (i + 1), fun σ' H' h => ⟨xs.length - (i + 1), by omega, rfl, hlt, h⟩, fun x H' y => ?_⟩
    obtain ⟨e, y⟩ := y
    subst e
    exact hs i x σ _ (by rw [List.getElem?_reverse hlt]; exact y xs q) p
  · have e : i = xs.length := by omega
    subst e
    exact .inl ⟨rfl, hd σ H p⟩
end L2
namespace Sb
open PySem PySem.Spec PyProof.Rows L2
/-- a dict that gives a thing to each thing of S -/
structure Mp (P : Program) (w : World) (H : Hp) (d : Addr) (S : Th → Prop) (F : Th → Th) : Prop where
  ex : ∃ kvs : List KE, H d = some (dkd P w d kvs) ∧ KeysAt H kvs ∧ ∀ t, S t → ∃ b, kval kvs (kd t) = some (.ref b) ∧ IsTh H (.ref b) (F t)
theorem Mp.at {P : Program} {w : World} {H : Hp} {d : Addr} {S : Th → Prop} {F : Th → Th} (N : Mp P w H d S F) : ∃ o, H d = some (.ext o) := by
  obtain ⟨kvs, h, _⟩ := N.ex
  exact ⟨_, h⟩
theorem Mp.keep {P : Program} {w : World} {H H' : Hp} {d : Addr} {S : Th → Prop} {F : Th → Th} (N : Mp P w H d S F) (hd : ∀ o, H d = some o → H' d = some o) (e : Tups H H') : Mp P w H' d S F := by
  obtain ⟨kvs, h1, h2, h3⟩ := N.ex
  exact ⟨kvs, hd _ h1, keysAt_tups e h2, fun t ht => by
    obtain ⟨b, a1, a2⟩ := h3 t ht
    exact ⟨b, a1, a2.tups e⟩⟩
theorem Mp.same {P : Program} {w : World} {H H' : Hp} {d : Addr} {S : Th → Prop} {F : Th → Th} (N : Mp P w H d S F) (e : Same H H') : Mp P w H' d S F := N.keep (fun o h => e d o h) (Tups.of e)
theorem Mp.get {P : Program} {w : World} {H : Hp} {d b : Addr} {S : Th → Prop} {F : Th → Th} {t : Th} {Q : VK} (N : Mp P w H d S F) (ht : S t) (ok : t.ok = true) (dp : t.depth ≤ 8) (h : IsTh H (.ref b) t) (q : ∀ c, IsTh H (.ref c) (F t) → Q (.ref c) H) : rIxKD P w (.ref d) (.ref b) H Q := by
  obtain ⟨kvs, h1, h2, h3⟩ := N.ex
  obtain ⟨c, a1, a2⟩ := h3 t ht
  exact ⟨d, b, kd t, kvs, _, rfl, rfl, ⟨h1, h2⟩, key_th h ok dp, a1, q c a2⟩
/-- d[t] = c -/
theorem Mp.set {P : Program} {w : World} {H : Hp} {d b c : Addr} {S : Th → Prop} {F : Th → Th} {t : Th} {n : Nat} {Q : Hp → Prop} (N : ∃ kvs : List KE, kvs.length ≤ n ∧ H d = some (dkd P w d kvs) ∧ KeysAt H kvs ∧ ∀ t, S t → ∃ b, kval kvs (kd t) = some (.ref b) ∧ IsTh H (.ref b) (F t)) (hn : n ≤ 1000000) (ok : t.ok = true) (dp : t.depth ≤ 8) (h : IsTh H (.ref b) t) (hc : IsTh H (.ref c) (F t))
    (q : ∀ H', (∀ e o, H e = some o → e ≠ d → H' e = some o) → (∃ kvs : List KE, kvs.length ≤ n + 1 ∧ H' d = some (dkd P w d kvs) ∧ KeysAt H' kvs ∧ ∀ u, S u ∨ u = t → ∃ b, kval kvs (kd u) = some (.ref b) ∧ IsTh H' (.ref b) (F u)) → Q H') : rSetKD P w (.ref d) (.ref b) (.ref c) H Q := by
  obtain ⟨kvs, h0, h1, h2, h3⟩ := N
  have kv := key_th h ok dp
  refine ⟨d, b, kd t, kvs, rfl, rfl, ⟨h1, h2⟩, kv, by rw [sizeLine_eq]; omega, q _ (fun e o h hc => by rw [upd_ne hc]; exact h) ?_⟩
  have tu : Tups H (upd H d (dkd P w d (kput kvs (kd t) b (.ref c)))) := tups_upd fun xs e => by rw [h1] at e; cases e
  refine ⟨_, Nat.le_trans (kput_len _ _ _ _) (by omega), upd_same, keysAt_tups tu (h2.put kv), fun u hu => ?_⟩
  rw [kval_put]
  by_cases e : u = t
  · subst e
    exact ⟨c, if_pos rfl, hc.tups tu⟩
  · obtain ⟨b', a1, a2⟩ := h3 u (hu.resolve_right e)
    exact ⟨b', by rw [if_neg (fun z => e (kd_inj' z))]; exact a1, a2.tups tu⟩
end Sb

set_option Elab.async false
set_option linter.all false
set_option maxRecDepth 100000
namespace K01
open PySem L2 Sb
def top (i : Nat) : Stmt := PySem.Challenge.pw_samebook_k01_things_in_things.main.body.getD i (.Pass ⟨0, 0, 0, 0⟩)
abbrev sParts : Stmt := top 4
abbrev sAll : Stmt := top 5
abbrev sPlInit : Stmt := inClass (top 6) 0
abbrev sPlaceOf : Stmt := inClass (top 6) 1
abbrev sByForm : Stmt := inClass (top 6) 2
abbrev sWkInit : Stmt := inClass (top 7) 0
abbrev sPlaceIn : Stmt := inClass (top 7) 1
abbrev sTop : Stmt := top 8
abbrev sAmong : Stmt := top 9
abbrev sShare : Stmt := top 10
abbrev sDrawn : Stmt := top 12
abbrev sInside : Stmt := top 13
abbrev sWord : Stmt := top 14
abbrev sSo : Stmt := top 15
abbrev sLaw : Stmt := top 16
end K01

set_option Elab.async false
set_option linter.all false
set_option maxRecDepth 100000
namespace K01
open PySem L2 Sb
section
variable {P : Program} {w : World} {K : PySem.W.Frag} {mg : Str → Option Value} {base : Heap}

/-! ### parts_of -/
theorem scParts : FnScope ["thing", "found", "part"] ["thing"] (defScope sParts) := ⟨rfl, rfl, rfl, by decide +kernel, rfl, by decide +kernel, by decide +kernel⟩
theorem ok_parts {n : Nat} {f : Addr} {fd : FuncData} (F : Fun K "parts_of" "parts_of" sParts f fd) (G : FnOk P w K mg base CX0 n f fd ["thing"] (spParts n)) (bG : Binds K fd ["thing"] []) (mG : mg "parts_of" = some (.ref f)) :
    FnOk P w K mg base CX0 (n + 1) f fd ["thing"] (spParts (n + 1)) := by
  refine F.ok scParts (fun vs H Q E h => ?_) (fun cdv A outer s H vs Q E hr h => ?_)
  · obtain ⟨v, t, rfl, _⟩ := h
    rfl
  obtain ⟨v, t, rfl, ht, hsz, hdep, q⟩ := h
  obtain ⟨a, wd, vs, ps, rfl, rfl, ha, hps⟩ := ht.inv
  refine ⟨_, pss_cons (ps_set (i := 1) scParts.nd rfl (Or.inl rfl) (pe_lst pa_nil))
    (pss_cons (ps_for PassesOwn.never rfl (pi_tup (pe_slice sl_tup (pv 0) (po_some pe_int) po_none)) (pg_name (i := 2) scParts.nd rfl (Or.inl rfl))
      (pss_one (ps_expr (pe_bm PySem.F.plainAttrs_list PySem.F.slot_list_extend PySem.F.type_list_extend mt_extend (pv 1) (pa_cons (pe_call G hr rfl mG F.kp bG .nil pass0 (pa_cons (pv 2) pa_nil)) pa_nil)))))
    (pss_cons (ps_expr (pe_bm PySem.F.plainAttrs_list PySem.F.slot_list_append PySem.F.type_list_append mt_append (pv 1) (pa_cons (pv 0) pa_nil)))
    (pss_one (ps_ret (pv 1))))), ?_⟩
  simp only [Th.size, Th.depth] at hsz hdep
  have hlen := hps.length
  have hll := len_le_sizeL ps
  refine ⟨Nat.zero_le _, fun p hp => ?_⟩
  have s1 : Same H (upd H p (.lst [])) := same_new hp _
  refine ⟨_, rfl, _, rfl, a, _, rfl, SqT.of (s1 _ _ ha), nowhole1 _ _, fun r hr' => ?_⟩
  rw [cut1]
  have s2 : Same (upd H p (.lst [])) (upd (upd H p (.lst [])) r (.tup vs)) := same_new hr' _
  have hpr : p ≠ r := ne_of_none upd_same hr'
  refine ⟨r, rfl, ⟨_, SqT.of upd_same⟩, for_tup (K := K) (a := r) (xs := vs) (fun i σ H2 => ∃ (us : List V) (pv : Option V), σ = [some (.ref a), some (.ref p), pv] ∧ Same H H2 ∧ H2 p = some (.lst us) ∧ H2 r = some (.tup vs) ∧ AreTh H2 us (insideL (ps.take i)))
    ⟨[], none, rfl, s1.trans s2, s2 _ _ upd_same, upd_same, by simp [insideL]; exact .nil⟩ (fun i σ H2 _ ⟨_, _, _, _, _, h2, _⟩ => SqT.of h2) ?_ ?_⟩
  · rintro i y σ H2 hi ⟨us, pv, rfl, g, g1, g2, g3⟩
    obtain ⟨t, ht, hy⟩ := hps.get hi
    have hmem : t ∈ ps := List.mem_of_getElem? ht
    have m1 := sizeL_mem hmem
    have m2 := depthL_mem hmem
    have hb : sizeL (ps.take i) ≤ sizeL ps := by
      have e : ∀ (l : List Th) (i : Nat), sizeL (l.take i) ≤ sizeL l := by
        intro l
        induction l with
        | nil => intro i; simp
        | cons x l ih =>
          intro i
          cases i with
          | zero => simp [sizeL]
          | succ i =>
            have := ih i
            simp only [List.take_succ_cons, sizeL]
            omega
      exact e ps i
    have lu := g3.length
    rw [insideL_len] at lu
    refine ⟨_, rfl, .inl ⟨rfl, _, SqL.of g1⟩, _, rfl, y, t, rfl, hy.same g, by omega, by omega, fun r2 us2 H3 g4 g5 g6 g7 => ?_⟩
    have l2 := g7.length
    rw [inside_len] at l2
    refine ⟨p, r2, us, us2, rfl, rfl, g4 _ _ g1, g6, small (by omega), ?_⟩
    have hp3 : H3 p = some (.lst us) := g4 _ _ g1
    have tu : Tups H3 (upd H3 p (.lst (us ++ us2))) := tups_upd fun xs e => by rw [hp3] at e; cases e
    refine ⟨us ++ us2, _, rfl, fun b o e => ?_, upd_same, ?_, ?_⟩
    · rw [upd_ne (ne_of_none e hp)]
      exact g4 _ _ (g b o e)
    · rw [upd_ne (Ne.symm hpr)]
      exact g4 _ _ g2
    · rw [List.take_add_one, ht]
      have e : insideL (ps.take i ++ (some t).toList) = insideL (ps.take i) ++ t.inside := by
        rw [insideL_flat, List.flatMap_append, ← insideL_flat]
        simp
      rw [e]
      exact ((g3.same g4).append g7).tups tu
  · rintro σ H2 ⟨us, pv, rfl, g, g1, g2, g3⟩
    have e : ps.take vs.length = ps := by rw [hlen, List.take_length]
    rw [e] at g3
    have lu := g3.length
    rw [insideL_len] at lu
    refine ⟨_, rfl, .inl ⟨rfl, _, SqL.of g1⟩, _, rfl, p, us, _, rfl, rfl, g1, by rw [sizeLine_eq]; omega, ?_⟩
    have tu : Tups H2 (upd H2 p (.lst (us ++ [.ref a]))) := tups_upd fun xs e => by rw [g1] at e; cases e
    refine ⟨_, rfl, q p _ _ (fun b o e => ?_) hp upd_same ?_⟩
    · rw [upd_ne (ne_of_none e hp)]
      exact g b o e
    · simp only [Th.inside]
      exact (g3.append (.one (ht.same g))).tups tu
theorem parts0 {f : Addr} {fd : FuncData} : FnOk P w K mg base CX0 0 f fd ["thing"] (spParts 0) := by
  have no : ∀ vs H Q E, ¬ spParts 0 vs H Q E := fun vs H Q E h => by
    obtain ⟨v, t, _, _, _, h1, _⟩ := h
    have := depth_pos t
    omega
  exact ⟨fun vs H Q E h => absurd h (no vs H Q E), fun A outer s H args us vs Q E _ _ _ _ h => absurd h (no vs H Q E)⟩
theorem parts_all {f : Addr} {fd : FuncData} (F : Fun K "parts_of" "parts_of" sParts f fd) (bG : Binds K fd ["thing"] []) (mG : mg "parts_of" = some (.ref f)) : ∀ n : Nat, FnOk P w K mg base CX0 n f fd ["thing"] (spParts n)
  | 0 => parts0
  | n + 1 => ok_parts F (parts_all F bG mG n) bG mG
end
end K01

set_option Elab.async false
set_option linter.all false
set_option maxRecDepth 100000
namespace K01
open PySem L2 Sb
/-! ### _law_any_word -/
theorem alpha (i : Int) (h0 : 0 ≤ i) (h1 : i < 26) : ∃ c : Nat, atI (("abcdefghijklmnopqrstuvwxyz" : Str).cps.toList) i = some c ∧ c < 0x110000 := by
  have hl : (("abcdefghijklmnopqrstuvwxyz" : Str).cps.toList).length = 26 := by decide +kernel
  have ha : ∀ c ∈ (("abcdefghijklmnopqrstuvwxyz" : Str).cps.toList), c < 0x110000 := by decide +kernel
  have hi : i.toNat < (("abcdefghijklmnopqrstuvwxyz" : Str).cps.toList).length := by rw [hl]; omega
  have e : i = ((i.toNat : Nat) : Int) := by omega
  have q := atI_nat (List.getElem?_eq_getElem hi)
  rw [← e] at q
  exact ⟨_, q, ha _ (List.getElem_mem hi)⟩
theorem strOk_cons {c : Nat} {x : Str} (hc : c < 0x110000) (h : PyData.strOk x = true) : PyData.strOk ((⟨#[c]⟩ : Str) ++ x) = true := by
  show ((#[c] ++ x.cps).all (· < 0x110000)) = true
  have h' : x.cps.all (· < 0x110000) = true := h
  rw [Array.all_append, h']
  simp [hc]
theorem len_cons {c : Nat} {x : Str} : ((⟨#[c]⟩ : Str) ++ x).length = x.length + 1 := by
  show (#[c] ++ x.cps).size = x.cps.size + 1
  simp
  omega
theorem pow_bound {k : Nat} {l : Int} (h1 : 1 ≤ l) (h : l * 2 ^ k ≤ 10 ^ 39) : k < 130 := by
  rcases Nat.lt_or_ge k 130 with h' | h'
  · exact h'
  · exfalso
    have e : (2 : Int) ^ 130 ≤ 2 ^ k := by
      have : (2 : Nat) ^ 130 ≤ 2 ^ k := Nat.pow_le_pow_right (by decide) h'
      exact_mod_cast this
    have e2 : (2 : Int) ^ k ≤ l * 2 ^ k := by
      have hp : (0 : Int) ≤ 2 ^ k := Int.le_of_lt (Int.pow_pos (by decide))
      have := Int.mul_le_mul_of_nonneg_right h1 hp
      simpa using this
    have e3 : (10 : Int) ^ 39 < 2 ^ 130 := by decide
    omega
theorem step_bound {k : Nat} {l : Int} (h1 : 1 ≤ l / 26 - 1) (h : l * 2 ^ k ≤ 10 ^ 39) : (l / 26 - 1) * 2 ^ (k + 1) ≤ 10 ^ 39 := by
  have hp : (0 : Int) < 2 ^ k := Int.pow_pos (by decide)
  have e : (l / 26 - 1) * 2 ^ (k + 1) = ((l / 26 - 1) * 2) * 2 ^ k := by rw [Int.pow_succ]; ac_rfl
  rw [e]
  have : (l / 26 - 1) * 2 ≤ l := by omega
  have := Int.mul_le_mul_of_nonneg_right this (Int.le_of_lt hp)
  omega
section
variable {P : Program} {w : World} {K : PySem.W.Frag} {mg : Str → Option Value} {base : Heap}
theorem scWord : FnScope ["_law_cell", "_law_left", "_law_word"] ["_law_cell"] (defScope sWord) := ⟨rfl, rfl, rfl, by decide +kernel, rfl, by decide +kernel, by decide +kernel⟩
theorem ok_word {f : Addr} {fd : FuncData} (F : Fun K "_law_any_word" "_law_any_word" sWord f fd) (ma : mg "abs" = none) : FnOk P w K mg base CX0 1 f fd ["_law_cell"] spWord := by
  refine F.ok scWord (fun vs H Q E h => ?_) (fun cdv A outer s H vs Q E hr h => ?_)
  · obtain ⟨n, rfl, _⟩ := h
    rfl
  obtain ⟨n, rfl, q⟩ := h
  refine ⟨_, pss_cons (ps_set (i := 1) scWord.nd rfl (Or.inl rfl) (pe_op op_mod (pe_callB call_abs rfl ma PyProof.Rows.boot_abs (pa_cons (pv 0) pa_nil)) (pe_op op_pow pe_int pe_int)))
    (pss_cons (ps_set (i := 2) scWord.nd rfl (Or.inl rfl) pe_str)
    (pss_cons (ps_while PassesOwn.never (pt_cmpR op_ge (pv 1) pe_int (nomark _))
      (pss_cons (ps_set (i := 2) scWord.nd rfl (Or.inl rfl) (pe_op op_add_str (pe_ix ix_str pe_str (pe_op op_mod (pv 1) pe_int) (fun _ _ => rfl)) (pv 2)))
      (pss_one (ps_set (i := 1) scWord.nd rfl (Or.inl rfl) (pe_op op_sub (pe_op op_fdiv (pv 1) pe_int) pe_int)))))
    (pss_one (ps_ret (pv 2))))), ?_⟩
  refine ⟨_, rfl, n, rfl, _, _, rfl, rfl, ⟨by decide, by decide, by decide⟩, _, _, rfl, rfl, (by show (0 : Int) < 10 ^ Int.toNat 39; decide), ?_⟩
  have L0 : 0 ≤ (if n < 0 then -n else n) % (10 : Int) ^ (Int.toNat 39) := Int.emod_nonneg _ (by decide)
  have L1 : (if n < 0 then -n else n) % (10 : Int) ^ (Int.toNat 39) < 10 ^ 39 := Int.emod_lt_of_pos _ (by decide)
  refine ⟨fun m σ H2 => ∃ (l : Int) (x : Str), σ = [some (.int n), some (.int l), some (.str x)] ∧ H2 = H ∧ -1 ≤ l ∧ m = (l + 1).toNat ∧ PyData.strOk x = true ∧ (1 ≤ l → l * 2 ^ x.length ≤ 10 ^ 39) ∧ (0 ≤ l → x.length ≤ 131) ∧ x.length ≤ 132,
    ⟨_, (if n < 0 then -n else n) % (10 : Int) ^ (Int.toNat 39), "", rfl, rfl, Int.le_trans (by decide) L0, rfl, by decide +kernel, fun _ => ?_, fun _ => by decide +kernel, by decide +kernel⟩, ?_⟩
  · have : (("" : Str).length) = 0 := by decide +kernel
    rw [this]
    generalize (if n < 0 then -n else n) % (10 : Int) ^ (Int.toNat 39) = L at L1 ⊢
    omega
  rintro m σ H2 ⟨l, x, rfl, rfl, h1, rfl, h2, h3, h4, h5⟩
  refine ⟨_, rfl, _, _, rfl, rfl, _, rfl, ?_⟩
  refine ite2 (fun c => ?_) (fun c => ?_)
  · have c' : 0 ≤ l := of_decide_eq_true c
    refine ⟨fun σ' H' => ∃ x', σ' = [some (.int n), some (.int (l / 26 - 1)), some (.str x')] ∧ H' = H2 ∧ PyData.strOk x' = true ∧ x'.length = x.length + 1, ?_, ?_⟩
    · rintro σ' H' ⟨x', rfl, rfl, k1, k2⟩
      refine ⟨_, ?_, l / 26 - 1, x', rfl, rfl, by omega, rfl, k1, fun z => ?_, fun z => ?_, ?_⟩
      · omega
      · rw [k2]
        exact step_bound z (h3 (by omega))
      · rw [k2]
        have := pow_bound (k := x.length) (l := l) (by omega) (h3 (by omega))
        omega
      · rw [k2]
        have := h4 c'
        omega
    · obtain ⟨ch, k1, k2⟩ := alpha (l % 26) (Int.emod_nonneg _ (by decide)) (Int.emod_lt_of_pos _ (by decide))
      refine ⟨_, rfl, _, _, rfl, rfl, (by show (0 : Int) < 26; decide), _, _, ch, rfl, rfl, by decide +kernel, k1, _, rfl, _, _, rfl, rfl, ?_, ?_⟩
      · have e1 : ((⟨#[ch]⟩ : Str).length) = 1 := rfl
        have := h4 c'
        rw [sizeLine_eq, e1]
        omega
      · refine ⟨_, rfl, _, _, rfl, rfl, ⟨by decide, by decide⟩, _, _, rfl, rfl, ?_⟩
        exact ⟨_, rfl, rfl, strOk_cons k2 h2, len_cons⟩
  · exact ⟨_, rfl, q x (by unfold wOk; rw [h2, decide_eq_true (by omega)]; rfl)⟩
end
end K01

set_option Elab.async false
set_option linter.all false
set_option maxRecDepth 100000
namespace K01
open PySem L2 Sb
/-! ### _law_inside -/
/-- the stack: pairs of a thing and whether it is ready -/
def Stk (H : Hp) : List V → List (Th × Bool) → Prop := Paired fun x p => ∃ a v, x = .ref a ∧ H a = some (.tup [v, .bl p.2]) ∧ IsTh H v p.1
theorem Stk.tups {H H' : Hp} (e : Tups H H') {xs : List V} {st : List (Th × Bool)} (h : Stk H xs st) : Stk H' xs st :=
  L2.Paired.mapP h fun x p ⟨a, v, h1, h2, h3⟩ => ⟨a, v, h1, e _ _ h2, h3.tups e⟩
theorem Stk.snoc {H : Hp} {xs : List V} {st : List (Th × Bool)} {x : V} {p : Th × Bool} (h : Stk H xs st) (hx : ∃ a v, x = .ref a ∧ H a = some (.tup [v, .bl p.2]) ∧ IsTh H v p.1) : Stk H (xs ++ [x]) (st ++ [p]) := Paired.snoc h hx
theorem paired_append {α β : Type} {F : α → β → Prop} : ∀ {a b : List α} {c d : List β}, Paired F a c → Paired F b d → Paired F (a ++ b) (c ++ d)
  | _, _, _, _, .nil, t => t
  | _, _, _, _, .cons h r, t => .cons h (paired_append r t)
theorem paired_unsnoc {α β : Type} {F : α → β → Prop} {xs : List α} {st : List β} {p : β} (h : Paired F xs (st ++ [p])) : ∃ xr x, xs = xr ++ [x] ∧ Paired F xr st ∧ F x p := by
  induction st generalizing xs with
  | nil =>
    cases h with
    | cons h1 h2 =>
      cases h2
      exact ⟨[], _, rfl, .nil, h1⟩
  | cons y r ih =>
    cases h with
    | cons h1 h2 =>
      obtain ⟨xr, x, e, k1, k2⟩ := ih h2
      exact ⟨_ :: xr, x, by rw [e]; rfl, .cons h1 k1, k2⟩
def stD (p : Th × Bool) : PyData := .tuple [p.1.toD, .bool p.2]
theorem Stk.dts {H : Hp} {xs : List V} {st : List (Th × Bool)} (h : Stk H xs st) : Dts H xs (st.map stD) := by
  unfold Stk at h
  induction h with
  | nil => exact .nil
  | cons h r ih =>
    obtain ⟨a, v, e1, e2, e3⟩ := h
    subst e1
    exact .cons (.tup e2 (.cons e3.dt (.cons (.bl _) .nil))) ih
theorem st_lay : ∀ (st : List (Th × Bool)), (∀ p ∈ st, p.1.ok = true) → PyData.canLayAll0 (st.map stD) = true
  | [], _ => by simp [PyData.canLayAll0]
  | p :: r, h => by
    have h1 := lay_of p.1 (h p List.mem_cons_self)
    have h2 := st_lay r fun q hq => h q (List.mem_cons_of_mem _ hq)
    simp [stD, PyData.canLayAll0, PyData.canLay0, h1, h2]
/-- what is still to come, from the top of the stack (its end) -/
def out : List (Th × Bool) → List Th
  | [] => []
  | p :: r => out r ++ (if p.2 then [p.1] else p.1.inside)
def cost : List (Th × Bool) → Nat
  | [] => 0
  | p :: r => cost r + (if p.2 then 1 else 2 * p.1.size)
theorem out_append : ∀ a b : List (Th × Bool), out (a ++ b) = out b ++ out a
  | [], b => by simp [out]
  | p :: r, b => by simp only [List.cons_append, out, out_append r b, List.append_assoc]
theorem cost_append : ∀ a b : List (Th × Bool), cost (a ++ b) = cost b + cost a
  | [], b => by simp [cost]
  | p :: r, b => by simp only [List.cons_append, cost, cost_append r b]; omega
theorem len_cost : ∀ st : List (Th × Bool), st.length ≤ cost st
  | [] => by simp [cost]
  | p :: r => by
    have := len_cost r
    have := size_pos p.1
    simp only [List.length_cons, cost]
    split <;> omega
def news (ps : List Th) : List (Th × Bool) := ps.reverse.map fun t => (t, false)
theorem out_news (ps : List Th) : out (news ps) = insideL ps := by
  unfold news
  induction ps with
  | nil => simp [out, insideL]
  | cons p r ih => rw [List.reverse_cons, List.map_append, out_append, ih]; simp [out, insideL]
theorem cost_news (ps : List Th) : cost (news ps) = 2 * sizeL ps := by
  unfold news
  induction ps with
  | nil => simp [cost, sizeL]
  | cons p r ih => rw [List.reverse_cons, List.map_append, cost_append, ih]; simp [cost, sizeL]; omega
theorem eqvAll_nil : ∀ ds : List PyData, PyData.eqvAll ds [] = ds.isEmpty
  | [] => by simp [PyData.eqvAll]
  | _ :: _ => by simp [PyData.eqvAll]
section
variable {P : Program} {w : World} {K : PySem.W.Frag} {mg : Str → Option Value} {base : Heap}
theorem scInside : FnScope ["_law_thing", "_law_row", "_law_todo", "_law_part", "_law_ready"] ["_law_thing"] (defScope sInside) := ⟨rfl, rfl, rfl, by decide +kernel, rfl, by decide +kernel, by decide +kernel⟩
theorem ok_inside {f : Addr} {fd : FuncData} (F : Fun K "_law_inside" "_law_inside" sInside f fd) (mr : mg "reversed" = none) : FnOk P w K mg base CX0 1 f fd ["_law_thing"] spInside := by
  refine F.ok scInside (fun vs H Q E h => ?_) (fun cdv A outer s H vs Q E hr h => ?_)
  · obtain ⟨v, t, rfl, _⟩ := h
    rfl
  obtain ⟨v, t, rfl, ht, hok, hsz, hdep, q⟩ := h
  have hu := hr.units
  refine ⟨_, pss_cons (ps_set (i := 1) scInside.nd rfl (Or.inl rfl) (pe_lst pa_nil))
    (pss_cons (ps_set (i := 2) scInside.nd rfl (Or.inl rfl) (pe_lst (pa_cons (pe_tup (pa_cons (pv 0) (pa_cons pe_bl pa_nil))) pa_nil)))
    (pss_cons (ps_while PassesOwn.never (pt_cmpR (op_neD hu) (pv 2) (pe_lst pa_nil) (nomark _))
      (pss_cons (ps_asg (pe_bm0 PySem.F.plainAttrs_list PySem.F.slot_list_pop PySem.F.type_list_pop mt_pop (pv 2)) (pg_tup rfl (pgs_cons (pg_name (i := 3) scInside.nd rfl (Or.inl rfl)) (pgs_cons (pg_name (i := 4) scInside.nd rfl (Or.inl rfl)) pgs_nil))))
      (pss_one (ps_if (pt_val (pv 4))
        (pss_one (ps_expr (pe_bm PySem.F.plainAttrs_list PySem.F.slot_list_append PySem.F.type_list_append mt_append (pv 1) (pa_cons (pv 3) pa_nil))))
        (pss_cons (ps_expr (pe_bm PySem.F.plainAttrs_list PySem.F.slot_list_append PySem.F.type_list_append mt_append (pv 2) (pa_cons (pe_tup (pa_cons (pv 3) (pa_cons pe_bl pa_nil))) pa_nil)))
        (pss_one (ps_set (i := 2) scInside.nd rfl (Or.inl rfl) (pe_op op_cat (pv 2)
          (pe_comp (own := ["_law_inner"]) (fv := []) rfl (S := (⟨by rfl, by decide +kernel, by decide +kernel, by decide +kernel⟩ : CScope (defScope sInside) _)) .nil (pi_rev rfl mr (pa_cons (pe_slice sl_tup (pv 3) (po_some pe_int) po_none) pa_nil))
            (fun _ _ _ _ _ => pg_name (i := 0) (nd1 _) rfl (Or.inl rfl) (Or.inr rfl)) (fun _ _ _ _ _ => pifs_nil)
            (fun _ _ _ _ _ => pe_tup (pa_cons (pv 0) (pa_cons pe_bl pa_nil)))))))))))) 
    (pss_one (ps_ret (pv 1))))), ?_⟩
  refine ⟨Nat.zero_le _, fun p hp => ?_⟩
  have s1 : Same H (upd H p (.lst [])) := same_new hp _
  refine ⟨_, rfl, by show 2 ≤ sizeLine; decide, fun e he => ?_⟩
  have s2 := same_new he (.tup [v, .bl false])
  refine ⟨by show 1 ≤ sizeLine; decide, fun l hl => ?_⟩
  have s3 := same_new hl (.lst [.ref e])
  have hpl : p ≠ l := ne_of_none (s2 _ _ upd_same) hl
  refine ⟨fun m σ H2 => ∃ (l : Addr) (us xs : List V) (done : List Th) (st : List (Th × Bool)) (x3 x4 : Option V), σ = [some v, some (.ref p), some (.ref l), x3, x4] ∧ Same H H2 ∧ H l = none ∧ p ≠ l ∧ H2 p = some (.lst us) ∧ H2 l = some (.lst xs) ∧ AreTh H2 us done ∧ Stk H2 xs st ∧
      (∀ q ∈ st, q.1.ok = true) ∧ m = cost st ∧ done ++ out st = t.inside ∧ cost st ≤ 2000000,
    ⟨_, l, [], [.ref e], [], [(t, false)], none, none, rfl, (s1.trans s2).trans s3, ((s1.trans s2).free hl), hpl, s3 _ _ (s2 _ _ upd_same), upd_same, .nil, .cons ⟨e, v, rfl, s3 _ _ upd_same, ht.same ((s1.trans s2).trans s3)⟩ .nil, ?_, rfl, ?_, ?_⟩, ?_⟩
  · intro q hq
    rw [List.mem_singleton] at hq
    subst hq
    exact hok
  · simp [out]
  · simp only [cost]
    simp
    omega
  rintro m σ H2 ⟨l, us, xs, done, st, x3, x4, rfl, g, gl, gpl, g1, g2, g3, g4, g5, rfl, g6, g7⟩
  have ld := g3.length
  have lst := len_cost st
  have lxs : xs.length = st.length := Paired.length g4
  have lin : done.length ≤ t.inside.length := by rw [← g6, List.length_append]; omega
  rw [inside_len] at lin
  refine ⟨_, rfl, Nat.zero_le _, fun z hz => ?_⟩
  have s4 := same_new hz (.lst [])
  have hpz : p ≠ z := ne_of_none g1 hz
  have hlz : l ≠ z := ne_of_none g2 hz
  refine ⟨.list (st.map stD), .list [], .lst (s4 _ _ g2) (g4.tups (Tups.of s4)).dts, .lst upd_same .nil, by simp only [PyData.canLay0]; exact st_lay st g5, by simp [PyData.canLay0, PyData.canLayAll0], ?_, _, rfl, ?_⟩
  · simp only [PyData.depth, PyData.depthAll]
    omega
  have ev : PyData.eqv (.list (st.map stD)) (.list []) = st.isEmpty := by
    simp only [PyData.eqv]
    rw [eqvAll_nil]
    cases st <;> rfl
  rw [ev]
  rcases List.eq_nil_or_concat st with rfl | ⟨sr, ⟨u, b⟩, est⟩
  · -- the stack is empty
    refine iteF ?_
    have e : done = t.inside := by rw [← g6]; simp [out]
    subst e
    exact ⟨_, rfl, q p us _ (g.trans s4) hp (s4 _ _ g1) (g3.same s4)⟩
  · have est : st = sr ++ [(u, b)] := by simpa using est
    subst est
    have hne : (sr ++ [(u, b)]).isEmpty = false := by cases sr <;> rfl
    rw [hne]
    refine iteT ?_
    obtain ⟨xr, x, ex, k1, ⟨a, y, ea, e2, e3⟩⟩ := paired_unsnoc g4
    subst ex ea
    rw [cost_append] at g7
    rw [out_append] at g6
    have hcs : cost (sr ++ [(u, b)]) = cost [(u, b)] + cost sr := cost_append _ _
    have hlast : (xr ++ [V.ref a])[(xr ++ [V.ref a]).length - 1]? = some (.ref a) := by simp
    have hal : a ≠ l := ne_of e2 g2 (by intro z; cases z)
    have hap : a ≠ p := ne_of e2 g1 (by intro z; cases z)
    have t5 : Tups H2 (upd (upd H2 z (.lst [])) l (.lst xr)) := (Tups.of s4).trans (tups_upd fun xs e => by rw [s4 _ _ g2] at e; cases e)
    refine ⟨fun σ' H' => ∃ m', m' < cost (sr ++ [(u, b)]) ∧ ∃ (l : Addr) (us xs : List V) (done : List Th) (st : List (Th × Bool)) (x3 x4 : Option V), σ' = [some v, some (.ref p), some (.ref l), x3, x4] ∧ Same H H' ∧ H l = none ∧ p ≠ l ∧ H' p = some (.lst us) ∧ H' l = some (.lst xs) ∧ AreTh H' us done ∧ Stk H' xs st ∧
      (∀ q ∈ st, q.1.ok = true) ∧ m' = cost st ∧ done ++ out st = t.inside ∧ cost st ≤ 2000000, fun σ' H' h => h, ?_⟩
    refine ⟨_, rfl, .inl ⟨rfl, _, SqL.of (s4 _ _ g2)⟩, l, _, _, rfl, rfl, s4 _ _ g2, hlast, a, _, rfl, SqT.of (by rw [List.dropLast_concat]; exact t5 _ _ e2), rfl, y, _, rfl, .bl b, _, rfl, rfl, ?_⟩
    rw [List.dropLast_concat]
    have k1 : Stk H2 xr sr := k1
    refine ⟨_, rfl, b, rfl, ?_⟩
    have g5r : ∀ q ∈ sr, q.1.ok = true := fun q hq => g5 q (List.mem_append_left _ hq)
    have oku : u.ok = true := g5 (u, b) (by simp)
    have sH5 : Same H (upd (upd H2 z (.lst [])) l (.lst xr)) := fun c o e => by
      rw [upd_ne (ne_of_none e gl)]
      exact s4 _ _ (g _ _ e)
    have p5 : (upd (upd H2 z (.lst [])) l (.lst xr)) p = some (.lst us) := by rw [upd_ne gpl]; exact s4 _ _ g1
    have l5 : (upd (upd H2 z (.lst [])) l (.lst xr)) l = some (.lst xr) := upd_same
    cases b with
    | true =>
      refine iteT ?_
      refine ⟨_, rfl, .inl ⟨rfl, _, SqL.of p5⟩, _, rfl, p, us, y, rfl, rfl, p5, by rw [sizeLine_eq]; omega, ?_⟩
      have t6 : Tups (upd (upd H2 z (.lst [])) l (.lst xr)) (upd (upd (upd H2 z (.lst [])) l (.lst xr)) p (.lst (us ++ [y]))) := tups_upd fun xs e => by rw [p5] at e; cases e
      refine ⟨cost sr, ?_, l, us ++ [y], xr, done ++ [u], sr, _, _, rfl, fun c o e => ?_, gl, gpl, upd_same, ?_, ?_, k1.tups (t5.trans t6), g5r, rfl, ?_, by omega⟩
      · rw [hcs]; simp [cost]
      · rw [upd_ne (ne_of_none e hp)]
        exact sH5 _ _ e
      · rw [upd_ne (Ne.symm gpl)]
        exact l5
      · exact (g3.tups (t5.trans t6)).append (.one (e3.tups (t5.trans t6)))
      · rw [← g6]; simp [out]
    | false =>
      refine iteF ?_
      obtain ⟨b0, wd, vs, ps, ey, eu, hb0, hps⟩ := e3.inv
      subst ey eu
      have hc1 : cost [(Th.mk wd ps, false)] = 2 * (sizeL ps + 1) := by simp [cost, Th.size]
      have okp : okL ps = true := by
        simp only [Th.ok, Bool.and_eq_true] at oku
        exact oku.2
      have lxr : xr.length = sr.length := Paired.length k1
      have lsr := len_cost sr
      have lvs := hps.length
      have lps := len_le_sizeL ps
      refine ⟨_, rfl, .inl ⟨rfl, _, SqL.of l5⟩, _, rfl, by show 2 ≤ sizeLine; decide, fun c hc => ?_⟩
      have s6 := same_new hc (.tup [.ref b0, .bl true])
      have hlc : l ≠ c := ne_of_none l5 hc
      have hpc : p ≠ c := ne_of_none p5 hc
      refine ⟨l, xr, .ref c, rfl, rfl, s6 _ _ l5, by rw [sizeLine_eq]; omega, ?_⟩
      -- todo + [..]
      generalize hH7 : upd (upd (upd (upd H2 z (.lst [])) l (.lst xr)) c (.tup [.ref b0, .bl true])) l (.lst (xr ++ [.ref c])) = H7
      have l7 : H7 l = some (.lst (xr ++ [.ref c])) := by rw [← hH7]; exact upd_same
      have p7 : H7 p = some (.lst us) := by rw [← hH7, upd_ne gpl]; exact s6 _ _ p5
      have t7 : Tups H2 H7 := by
        rw [← hH7]
        exact (t5.trans (Tups.of s6)).trans (tups_upd fun xs e => by rw [s6 _ _ l5] at e; cases e)
      have c7 : H7 c = some (.tup [.ref b0, .bl true]) := by rw [← hH7, upd_ne (Ne.symm hlc)]; exact upd_same
      have sH7 : Same H H7 := fun d o e => by
        rw [← hH7, upd_ne (ne_of_none e gl)]
        exact s6 _ _ (sH5 _ _ e)
      clear hH7
      refine ⟨_, rfl, _, rfl, _, rfl, b0, _, rfl, SqT.of (t7 _ _ hb0), nowhole1 _ _, fun r hr' => ?_⟩
      rw [cut1]
      have s8 := same_new hr' (.tup vs)
      refine ⟨r, vs, rfl, SqT.of upd_same, fun w' hw' => ?_⟩
      have s9 := same_new hw' (.lst [])
      have hlw : l ≠ w' := ne_of_none (s8 _ _ l7) hw'
      have hpw : p ≠ w' := ne_of_none (s8 _ _ p7) hw'
      have hrw : r ≠ w' := ne_of_none upd_same hw'
      refine comp_rev (K := K) (a := r) (xs := vs) (small (by omega)) (fun i ys σ H8 => (∃ x0, σ = [x0]) ∧ Same (upd H7 r (.tup vs)) H8 ∧ Stk H8 ys ((ps.reverse.take i).map fun t => (t, false)))
        ⟨⟨_, rfl⟩, s9, by simp; exact .nil⟩ (fun i ys σ H8 _ h => SqT.of (h.2.1 _ _ upd_same)) ?_ ?_
      · rintro i x ys σ H8 hi hyl ⟨⟨x0, rfl⟩, g8, g9⟩ g10
        refine ⟨_, rfl, by show 2 ≤ sizeLine; decide, fun d hd => ?_⟩
        have s10 := same_new hd (.tup [x, .bl false])
        have hwd : w' ≠ d := ne_of_none g10 hd
        refine ⟨s10 _ _ g10, ⟨_, rfl⟩, fun b o e => ?_, ?_⟩
        · rw [upd_ne (ne_of_none e hw')]
          exact s10 _ _ (g8 _ _ e)
        · have hx : ∃ t, ps.reverse[i]? = some t ∧ IsTh H2 x t := by
            have hiv : i < vs.length := by
              have := (List.getElem?_eq_some_iff.mp hi).1
              simpa using this
            rw [List.getElem?_reverse hiv] at hi
            obtain ⟨t, e1, e2⟩ := hps.get hi
            refine ⟨t, ?_, e2⟩
            rw [List.getElem?_reverse (by omega), ← lvs]
            exact e1
          obtain ⟨tx, htx, itx⟩ := hx
          have tx' : Tups H8 (upd (upd H8 d (.tup [x, .bl false])) w' (.lst (ys ++ [.ref d]))) := (Tups.of s10).trans (tups_upd fun xs e => by rw [s10 _ _ g10] at e; cases e)
          have t8 : Tups H2 H8 := (t7.trans (Tups.of s8)).trans (Tups.of g8)
          rw [List.take_add_one, htx, List.map_append]
          refine (g9.tups tx').snoc ⟨d, x, rfl, ?_, itx.tups (t8.trans tx')⟩
          rw [upd_ne (Ne.symm hwd)]
          exact upd_same
      · rintro ys σ H8 hyl ⟨_, g8, g9⟩ g10
        have ep : ps.reverse.take vs.length = ps.reverse := by rw [lvs, ← List.length_reverse, List.take_length]
        rw [ep] at g9
        have g9 : Stk H8 ys (news ps) := g9
        have l8 : H8 l = some (.lst (xr ++ [.ref c])) := g8 _ _ (s8 _ _ l7)
        refine ⟨l, w', _, ys, rfl, rfl, l8, g10, small (by rw [List.length_append, List.length_singleton]; omega), fun n hn => ?_⟩
        have s11 := same_new hn (.lst (xr ++ [.ref c] ++ ys))
        have t8 : Tups H2 (upd H8 n (.lst (xr ++ [.ref c] ++ ys))) := ((t7.trans (Tups.of s8)).trans (Tups.of g8)).trans (Tups.of s11)
        have sHn : Same H (upd H8 n (.lst (xr ++ [.ref c] ++ ys))) := ((sH7.trans s8).trans g8).trans s11
        have hcn : cost (sr ++ [(Th.mk wd ps, true)] ++ news ps) = cost sr + 1 + 2 * sizeL ps := by
          rw [cost_append, cost_append, cost_news]
          simp [cost]
          omega
        refine ⟨_, ?_, n, us, _, done, sr ++ [(Th.mk wd ps, true)] ++ news ps, _, _, rfl, sHn, ?_, ?_, ?_, upd_same, ?_, ?_, ?_, rfl, ?_, ?_⟩
        · rw [hcs, hc1, hcn]; omega
        · exact ((sH7.trans s8).trans g8).free hn
        · exact ne_of_none (g8 _ _ (s8 _ _ p7)) hn
        · exact s11 _ _ (g8 _ _ (s8 _ _ p7))
        · exact g3.tups t8
        · refine paired_append ((k1.tups t8).snoc ⟨c, .ref b0, rfl, s11 _ _ (g8 _ _ (s8 _ _ c7)), e3.tups t8⟩) (g9.tups (Tups.of s11))
        · intro q hq
          rcases List.mem_append.mp hq with hq | hq
          · rcases List.mem_append.mp hq with hq | hq
            · exact g5r q hq
            · rw [List.mem_singleton] at hq
              subst hq
              exact oku
          · unfold news at hq
            obtain ⟨t, ht', e⟩ := List.mem_map.mp hq
            subst e
            rw [okL_all, List.all_eq_true] at okp
            exact okp t (List.mem_reverse.mp ht')
        · rw [out_append, out_append, out_news]
          rw [← g6]
          simp [out, Th.inside]
        · rw [hcn]
          rw [hc1] at g7
          omega
end
end K01

set_option Elab.async false
set_option linter.all false
set_option maxRecDepth 100000
namespace K01
open PySem L2 Sb
/-! ### _law_so: two values with the same data are found the same -/
/-- pairs of values with one data each; the data stands in H0 -/
def Prs (H0 H : Hp) : List V → List PyData → Prop := Paired fun x d => ∃ a y z, x = .ref a ∧ H a = some (.tup [y, z]) ∧ Dt H0 y d ∧ Dt H0 z d
theorem Prs.tups {H0 H H' : Hp} (e : Tups H H') {xs : List V} {ds : List PyData} (h : Prs H0 H xs ds) : Prs H0 H' xs ds :=
  L2.Paired.mapP h fun x d ⟨a, y, z, h1, h2, h3, h4⟩ => ⟨a, y, z, h1, e _ _ h2, h3, h4⟩
def prD (d : PyData) : PyData := .tuple [d, d]
theorem Prs.dts {H0 H : Hp} (g : Same H0 H) {xs : List V} {ds : List PyData} (h : Prs H0 H xs ds) : Dts H xs (ds.map prD) := by
  unfold Prs at h
  induction h with
  | nil => exact .nil
  | cons h r ih =>
    obtain ⟨a, y, z, e1, e2, e3, e4⟩ := h
    subst e1
    exact .cons (.tup e2 (.cons (e3.same g) (.cons (e4.same g) .nil))) ih
theorem pr_lay : ∀ (ds : List PyData), PyData.canLayAll0 ds = true → PyData.canLayAll0 (ds.map prD) = true
  | [], _ => by simp [PyData.canLayAll0]
  | d :: r, h => by
    simp only [PyData.canLayAll0, Bool.and_eq_true] at h
    have h2 := pr_lay r h.2
    simp [prD, PyData.canLayAll0, PyData.canLay0, h.1, h2]
theorem lay_append : ∀ (xs ys : List PyData), PyData.canLayAll0 (xs ++ ys) = (PyData.canLayAll0 xs && PyData.canLayAll0 ys)
  | [], ys => by simp [PyData.canLayAll0]
  | x :: r, ys => by simp [PyData.canLayAll0, lay_append r ys, Bool.and_assoc]
theorem lay_take : ∀ (xs : List PyData) (n : Nat), PyData.canLayAll0 xs = true → PyData.canLayAll0 (xs.take n) = true
  | [], _, _ => by simp [PyData.canLayAll0]
  | x :: r, 0, _ => by simp [PyData.canLayAll0]
  | x :: r, n + 1, h => by
    simp only [PyData.canLayAll0, Bool.and_eq_true] at h
    simp [PyData.canLayAll0, h.1, lay_take r n h.2]
theorem depth_mem : ∀ {xs : List PyData} {d : PyData}, d ∈ xs → d.depth ≤ PyData.depthAll xs
  | x :: r, d, h => by
    simp only [PyData.depthAll]
    rcases List.mem_cons.mp h with rfl | h
    · omega
    · have := depth_mem h
      omega
theorem nodesL_take : ∀ (xs : List PyData) (n : Nat), nodesL (xs.take n) ≤ nodesL xs
  | [], _ => by simp [nodesL]
  | x :: r, 0 => by simp [nodesL]
  | x :: r, n + 1 => by
    have := nodesL_take r n
    simp only [List.take_succ_cons, nodesL]
    omega
/-- lists and tuples alike -/
def TT (b : Bool) : String := if b then "list" else "tuple"
theorem tt_any {K : PySem.W.Frag} (b : Bool) : PySem.W.kitAny K (.type (TT b)) [.type "list", .type "tuple"] = some true := by
  cases b
  · exact isi2_t
  · exact isi2_l
theorem tt_l {K : PySem.W.Frag} (b : Bool) : PySem.W.kitOne K (.type (TT b)) (.type "list") = some b := by
  cases b
  · exact isi_tl
  · exact isi_ll
theorem tt_t {K : PySem.W.Frag} (b : Bool) : PySem.W.kitOne K (.type (TT b)) (.type "tuple") = some (!b) := by
  cases b
  · exact isi_tt
  · exact isi_lt
def seqD (b : Bool) (ds : List PyData) : PyData := if b then .list ds else .tuple ds
theorem seq_of {K : PySem.W.Frag} {H : Hp} {v : V} {b : Bool} {ds : List PyData} (h : Dt H v (seqD b ds)) : ∃ p xs, v = .ref p ∧ (SqL K H p xs ∨ SqT K H p xs) ∧ Dts H xs ds := by
  cases b with
  | true =>
    have h : Dt H v (.list ds) := h
    cases h with
    | lst e t => exact ⟨_, _, rfl, .inl (SqL.of e), t⟩
  | false =>
    have h : Dt H v (.tuple ds) := h
    cases h with
    | tup e t => exact ⟨_, _, rfl, .inr (SqT.of e), t⟩
theorem ty_of {K : PySem.W.Frag} {H : Hp} {v : V} {b : Bool} {ds : List PyData} (h : Dt H v (seqD b ds)) : TyOf K H v (.type (TT b)) := by
  cases b with
  | true =>
    have h : Dt H v (.list ds) := h
    cases h with
    | lst e t => exact .lst e
  | false =>
    have h : Dt H v (.tuple ds) := h
    cases h with
    | tup e t => exact .tup e
theorem nodes_seq (b : Bool) (is : List PyData) : nodes (seqD b is) = nodesL is + 1 := by cases b <;> simp [seqD, nodes]
theorem lay_seq (b : Bool) (is : List PyData) : (seqD b is).canLay0 = PyData.canLayAll0 is := by cases b <;> simp [seqD, PyData.canLay0]
theorem depth_seq (b : Bool) (is : List PyData) : (seqD b is).depth = PyData.depthAll is + 1 := by cases b <;> simp [seqD, PyData.depth]
theorem kinds (d : PyData) (h : d.canLay0 = true) : (∃ b is, d = seqD b is) ∨ d = .none ∨ (∃ b, d = .bool b) ∨ (∃ i, d = .int i) ∨ ∃ x, d = .str x := by
  cases d with
  | none => exact .inr (.inl rfl)
  | bool b => exact .inr (.inr (.inl ⟨b, rfl⟩))
  | int i => exact .inr (.inr (.inr (.inl ⟨i, rfl⟩)))
  | str x => exact .inr (.inr (.inr (.inr ⟨x, rfl⟩)))
  | list is => exact .inl ⟨true, is, rfl⟩
  | tuple is => exact .inl ⟨false, is, rfl⟩
  | dict kvs => simp [PyData.canLay0] at h
theorem sq_same {K : PySem.W.Frag} {H H' : Hp} (g : Same H H') {p : Addr} {xs : List V} (h : SqL K H p xs ∨ SqT K H p xs) : SqL K H' p xs ∨ SqT K H' p xs := by
  rcases h with h | h
  · exact .inl (g.seq h)
  · refine .inr ?_
    rcases h with (h | ⟨o, h⟩) | h
    · exact .inl (.inl (g _ _ h))
    · exact .inl (.inr ⟨o, g _ _ h⟩)
    · exact .inr h
theorem ix_of {K : PySem.W.Frag} {H : Hp} {p : Addr} {xs : List V} {i : Int} {v : V} {Q : VK} (h : SqL K H p xs ∨ SqT K H p xs) (e : atI xs i = some v) (q : Q v H) : rIx K (.ref p) (.int i) H Q := by
  rcases h with h | h
  · exact .inl ⟨p, xs, i, v, rfl, rfl, h, e, q⟩
  · exact .inr (.inl ⟨p, xs, i, v, rfl, rfl, h, e, q⟩)
/-- the builtins that the laws name -/
structure Blt (mg : Str → Option Value) : Prop where
  len : mg "len" = none
  min : mg "min" = none
  abs : mg "abs" = none
  list : mg "list" = none
  tuple : mg "tuple" = none
  str : mg "str" = none
  bool : mg "bool" = none
  int : mg "int" = none
  isinstance : mg "isinstance" = none
  range : mg "range" = none
  reversed : mg "reversed" = none
section
variable {P : Program} {w : World} {K : PySem.W.Frag} {mg : Str → Option Value} {base : Heap}
theorem scSo : FnScope ["_law_found", "_law_due", "_law_todo", "_law_one", "_law_other", "_law_k"] ["_law_found", "_law_due"] (defScope sSo) := ⟨rfl, rfl, rfl, by decide +kernel, rfl, by decide +kernel, by decide +kernel⟩
theorem ok_so {f : Addr} {fd : FuncData} (F : Fun K "_law_so" "_law_so" sSo f fd) (B : Blt mg) : FnOk P w K mg base CX0 1 f fd ["_law_found", "_law_due"] spSo := by
  refine F.ok scSo (fun vs H Q E h => ?_) (fun cdv A outer s H vs Q E hr h => ?_)
  · obtain ⟨x, y, d, rfl, _⟩ := h
    rfl
  obtain ⟨x, y, d, rfl, hx, hy, hlay, hnd, hdp, q⟩ := h
  have hu := hr.units
  refine ⟨_, pss_cons (ps_set (i := 2) scSo.nd rfl (Or.inl rfl) (pe_lst (pa_cons (pe_tup (pa_cons (pv 0) (pa_cons (pv 1) pa_nil))) pa_nil)))
    (pss_cons (ps_while PassesOwn.never (pt_cmpR (op_neD hu) (pv 2) (pe_lst pa_nil) (nomark _))
      (pss_cons (ps_asg (pe_bm0 PySem.F.plainAttrs_list PySem.F.slot_list_pop PySem.F.type_list_pop mt_pop (pv 2)) (pg_tup rfl (pgs_cons (pg_name (i := 3) scSo.nd rfl (Or.inl rfl)) (pgs_cons (pg_name (i := 4) scSo.nd rfl (Or.inl rfl)) pgs_nil))))
      (pss_one (ps_if (pt_val (pe_callB call_isi2 rfl B.isinstance PyProof.Rows.boot_isinstance (pa_cons (pv 4) (pa_cons (pe_tup (pa_cons (pe_bltn (v := .ty "list") rfl B.list PyProof.Rows.boot_list rfl) (pa_cons (pe_bltn (v := .ty "tuple") rfl B.tuple PyProof.Rows.boot_tuple rfl) pa_nil))) pa_nil))))
        (pss_cons (ps_if (pt_cmpR op_ne (pe_callB call_isi rfl B.isinstance PyProof.Rows.boot_isinstance (pa_cons (pv 3) (pa_cons (pe_bltn (v := .ty "list") rfl B.list PyProof.Rows.boot_list rfl) pa_nil))) (pe_callB call_isi rfl B.isinstance PyProof.Rows.boot_isinstance (pa_cons (pv 4) (pa_cons (pe_bltn (v := .ty "list") rfl B.list PyProof.Rows.boot_list rfl) pa_nil))) (nomark _)) (pss_one (ps_ret pe_bl)) pss_nil)
        (pss_cons (ps_if (pt_cmpR op_ne (pe_callB call_isi rfl B.isinstance PyProof.Rows.boot_isinstance (pa_cons (pv 3) (pa_cons (pe_bltn (v := .ty "tuple") rfl B.tuple PyProof.Rows.boot_tuple rfl) pa_nil))) (pe_callB call_isi rfl B.isinstance PyProof.Rows.boot_isinstance (pa_cons (pv 4) (pa_cons (pe_bltn (v := .ty "tuple") rfl B.tuple PyProof.Rows.boot_tuple rfl) pa_nil))) (nomark _)) (pss_one (ps_ret pe_bl)) pss_nil)
        (pss_cons (ps_if (pt_cmpR op_ne (pe_callB call_len_seq rfl B.len PySem.boot_len (pa_cons (pv 3) pa_nil)) (pe_callB call_len_seq rfl B.len PySem.boot_len (pa_cons (pv 4) pa_nil)) (nomark _)) (pss_one (ps_ret pe_bl)) pss_nil)
        (pss_one (ps_for PassesOwn.never rfl (pi_range1 rfl B.range (pa_cons (pe_callB call_len_seq rfl B.len PySem.boot_len (pa_cons (pv 4) pa_nil)) pa_nil)) (pg_name (i := 5) scSo.nd rfl (Or.inl rfl))
          (pss_one (ps_expr (pe_bm PySem.F.plainAttrs_list PySem.F.slot_list_append PySem.F.type_list_append mt_append (pv 2) (pa_cons (pe_tup (pa_cons (pe_ix ix_seq (pv 3) (pv 5) (fun _ _ => rfl)) (pa_cons (pe_ix ix_seq (pv 4) (pv 5) (fun _ _ => rfl)) pa_nil))) pa_nil)))))))))
        (pss_one (ps_if (pt_val (pe_callB call_isi rfl B.isinstance PyProof.Rows.boot_isinstance (pa_cons (pv 4) (pa_cons (pe_bltn (v := .ty "str") rfl B.str PyProof.Rows.boot_str rfl) pa_nil))))
          (pss_one (ps_if (PW.pt (pw_or (pt_not (pt_val (pe_callB call_isi rfl B.isinstance PyProof.Rows.boot_isinstance (pa_cons (pv 3) (pa_cons (pe_bltn (v := .ty "str") rfl B.str PyProof.Rows.boot_str rfl) pa_nil))))) (pw_or1 (pt_cmpR op_ne (pv 3) (pv 4) (nomark _))))) (pss_one (ps_ret pe_bl)) pss_nil))
          (pss_one (ps_if (pt_val (pe_callB call_isi rfl B.isinstance PyProof.Rows.boot_isinstance (pa_cons (pv 4) (pa_cons (pe_bltn (v := .ty "bool") rfl B.bool PyProof.Rows.boot_bool rfl) pa_nil))))
            (pss_one (ps_if (PW.pt (pw_or (pt_not (pt_val (pe_callB call_isi rfl B.isinstance PyProof.Rows.boot_isinstance (pa_cons (pv 3) (pa_cons (pe_bltn (v := .ty "bool") rfl B.bool PyProof.Rows.boot_bool rfl) pa_nil))))) (pw_or1 (pt_cmpR op_ne (pv 3) (pv 4) (nomark _))))) (pss_one (ps_ret pe_bl)) pss_nil))
            (pss_one (ps_if (pt_cmp (pc_isN (pv 4)))
              (pss_one (ps_if (pt_cmp (pc_notN (pv 3))) (pss_one (ps_ret pe_bl)) pss_nil))
              (pss_one (ps_if (PW.pt (pw_or (pt_not (pt_val (pe_callB call_isi rfl B.isinstance PyProof.Rows.boot_isinstance (pa_cons (pv 3) (pa_cons (pe_bltn (v := .ty "int") rfl B.int PyProof.Rows.boot_int rfl) pa_nil))))) (pw_or (pt_val (pe_callB call_isi rfl B.isinstance PyProof.Rows.boot_isinstance (pa_cons (pv 3) (pa_cons (pe_bltn (v := .ty "bool") rfl B.bool PyProof.Rows.boot_bool rfl) pa_nil)))) (pw_or1 (pt_cmpR op_ne (pv 3) (pv 4) (nomark _)))))) (pss_one (ps_ret pe_bl)) pss_nil))))))))))))
    (pss_one (ps_ret pe_bl))), ?_⟩
  refine ⟨_, rfl, _, rfl, by show 2 ≤ sizeLine; decide, fun e he => ?_⟩
  have s1 := same_new he (.tup [x, y])
  refine ⟨by show 1 ≤ sizeLine; decide, fun l hl => ?_⟩
  have s2 := same_new hl (.lst [.ref e])
  refine ⟨fun m σ H2 => ∃ (xs : List V) (ds : List PyData) (x3 x4 x5 : Option V), σ = [some x, some y, some (.ref l), x3, x4, x5] ∧ Same H H2 ∧ H2 l = some (.lst xs) ∧ Prs H H2 xs ds ∧ m = nodesL ds ∧ PyData.canLayAll0 ds = true ∧ (∀ d ∈ ds, d.depth ≤ 60) ∧ nodesL ds ≤ 1000000,
    ⟨_, [.ref e], [d], none, none, none, rfl, s1.trans s2, upd_same, .cons ⟨e, x, y, rfl, s2 _ _ upd_same, hx, hy⟩ .nil, rfl, by simp [PyData.canLayAll0, hlay], ?_, by simp [nodesL]; exact hnd⟩, ?_⟩
  · intro d' hd'
    rw [List.mem_singleton] at hd'
    subst hd'
    exact hdp
  have hHl : H l = none := s1.free hl
  rintro m σ H2 ⟨xs, ds, x3, x4, x5, rfl, g, g1, g2, rfl, g3, g4, g5⟩
  have lxs : xs.length = ds.length := Paired.length g2
  refine ⟨_, rfl, Nat.zero_le _, fun z hz => ?_⟩
  have s4 := same_new hz (.lst [])
  have hlz : l ≠ z := ne_of_none g1 hz
  refine ⟨.list (ds.map prD), .list [], .lst (s4 _ _ g1) ((g2.tups (Tups.of s4)).dts (g.trans s4)), .lst upd_same .nil, by simp only [PyData.canLay0]; exact pr_lay ds g3, by simp [PyData.canLay0, PyData.canLayAll0], ?_, _, rfl, ?_⟩
  · simp only [PyData.depth, PyData.depthAll]
    omega
  have ev : PyData.eqv (.list (ds.map prD)) (.list []) = ds.isEmpty := by
    simp only [PyData.eqv]
    rw [eqvAll_nil]
    cases ds <;> rfl
  rw [ev]
  rcases List.eq_nil_or_concat ds with rfl | ⟨dr, dd, eds⟩
  · refine iteF ?_
    exact q _ (g.trans s4)
  · have eds : ds = dr ++ [dd] := by simpa using eds
    subst eds
    have hne : (dr ++ [dd]).isEmpty = false := by cases dr <;> rfl
    rw [hne]
    refine iteT ?_
    obtain ⟨xr, xl, ex, k1, ⟨a, u, v, ea, e2, e3, e4⟩⟩ := paired_unsnoc g2
    subst ex ea
    have hnl : nodesL (dr ++ [dd]) = nodesL dr + nodes dd := by rw [nodesL_append]; simp [nodesL]
    rw [hnl] at g5
    have hpos := nodes_pos dd
    rw [lay_append] at g3
    simp only [PyData.canLayAll0, Bool.and_eq_true, Bool.and_true] at g3
    obtain ⟨g3r, g3d⟩ := g3
    have g4r : ∀ d ∈ dr, d.depth ≤ 60 := fun d hd => g4 d (List.mem_append_left _ hd)
    have g4d : dd.depth ≤ 60 := g4 dd (by simp)
    have hlast : (xr ++ [V.ref a])[(xr ++ [V.ref a]).length - 1]? = some (.ref a) := by simp
    have t5 : Tups H2 (upd (upd H2 z (.lst [])) l (.lst xr)) := (Tups.of s4).trans (tups_upd fun xs e => by rw [s4 _ _ g1] at e; cases e)
    have sH5 : Same H (upd (upd H2 z (.lst [])) l (.lst xr)) := fun c o e => by
      rw [upd_ne (ne_of_none e hHl)]
      exact s4 _ _ (g _ _ e)
    have l5 : (upd (upd H2 z (.lst [])) l (.lst xr)) l = some (.lst xr) := upd_same
    have k1 : Prs H H2 xr dr := k1
    have p5 : Prs H (upd (upd H2 z (.lst [])) l (.lst xr)) xr dr := k1.tups t5
    refine ⟨fun σ' H' => ∃ m', m' < nodesL (dr ++ [dd]) ∧ ∃ (xs : List V) (ds : List PyData) (x3 x4 x5 : Option V), σ' = [some x, some y, some (.ref l), x3, x4, x5] ∧ Same H H' ∧ H' l = some (.lst xs) ∧ Prs H H' xs ds ∧ m' = nodesL ds ∧ PyData.canLayAll0 ds = true ∧ (∀ d ∈ ds, d.depth ≤ 60) ∧ nodesL ds ≤ 1000000, fun σ' H' h => h, ?_⟩
    refine ⟨_, rfl, .inl ⟨rfl, _, SqL.of (s4 _ _ g1)⟩, l, _, _, rfl, rfl, s4 _ _ g1, hlast, a, _, rfl, SqT.of (by rw [List.dropLast_concat]; exact t5 _ _ e2), rfl, u, _, rfl, v, _, rfl, rfl, ?_⟩
    rw [List.dropLast_concat]
    generalize upd (upd H2 z (.lst [])) l (.lst xr) = H5 at *
    have fin : ∀ {σ' : St} {H' : Hp} {x5 : Option V}, σ' = [some x, some y, some (.ref l), some u, some v, x5] → Same H5 H' → ∃ m', m' < nodesL (dr ++ [dd]) ∧ ∃ (xs : List V) (ds : List PyData) (x3 x4 x5 : Option V), σ' = [some x, some y, some (.ref l), x3, x4, x5] ∧ Same H H' ∧ H' l = some (.lst xs) ∧ Prs H H' xs ds ∧ m' = nodesL ds ∧ PyData.canLayAll0 ds = true ∧ (∀ d ∈ ds, d.depth ≤ 60) ∧ nodesL ds ≤ 1000000 := fun {σ' H' x5} e gs =>
      ⟨nodesL dr, by rw [hnl]; omega, xr, dr, _, _, _, e, sH5.trans gs, gs _ _ l5, p5.tups (Tups.of gs), rfl, g3r, g4r, by omega⟩
    have dv : Dt H5 v dd := e4.same sH5
    have du : Dt H5 u dd := e3.same sH5
    -- the ways: a list or a tuple; a text; a bool; None; an int
    refine ⟨_, rfl, by show 2 ≤ sizeLine; decide, fun c hc => ?_⟩
    have s6 := same_new hc (.tup [.ty "list", .ty "tuple"])
    rcases kinds dd g3d with ⟨b, is, rfl⟩ | rfl | ⟨bb, rfl⟩ | ⟨i, rfl⟩ | ⟨xx, rfl⟩
    · obtain ⟨pu, us, rfl, hu0, du0⟩ := seq_of (K := K) e3
      obtain ⟨pw, ws, rfl, hw0, dw0⟩ := seq_of (K := K) e4
      have tu := ty_of (K := K) (du.same s6)
      have tv := ty_of (K := K) (dv.same s6)
      have lu := du0.length
      have lw := dw0.length
      have nis : nodes (seqD b is) = nodesL is + 1 := nodes_seq b is
      have lis := len_le_nodesL is
      have lays : PyData.canLayAll0 is = true := by rw [lay_seq] at g3d; exact g3d
      have deps : ∀ d ∈ is, d.depth ≤ 60 := fun d hd => by
        have h1 := depth_mem hd
        rw [depth_seq] at g4d
        omega
      refine ⟨_, c, _, _, TT b, true, rfl, upd_same, tv, tt_any b, true, rfl, iteT ?_⟩
      refine ⟨_, rfl, _, _, _, b, rfl, tu, tt_l b, _, rfl, _, _, _, b, rfl, tv, tt_l b, rfl, _, rfl, iteNS rfl ?_⟩
      refine ⟨_, rfl, _, _, _, !b, rfl, tu, tt_t b, _, rfl, _, _, _, !b, rfl, tv, tt_t b, rfl, _, rfl, iteNS rfl ?_⟩
      have sH6 := sH5.trans s6
      refine ⟨_, rfl, pu, us, rfl, sq_same sH6 hu0, _, rfl, pw, ws, rfl, sq_same sH6 hw0, rfl, _, rfl, iteNS (by rw [lu, lw]) ?_⟩
      have hto : ((ws.length : Int)).toNat = ws.length := by simp
      refine ⟨_, rfl, pw, ws, rfl, sq_same sH6 hw0, _, rfl, by omega, by omega, for_range (lo := 0) (n := ((ws.length : Int)).toNat) (fun k σ H7 => ∃ (x5 : Option V) (nw : List V), σ = [some x, some y, some (.ref l), some (.ref pu), some (.ref pw), x5] ∧ Same H H7 ∧ H7 l = some (.lst (xr ++ nw)) ∧ Prs H H7 (xr ++ nw) (dr ++ is.take k))
        ⟨_, [], rfl, sH6, by rw [List.append_nil]; exact s6 _ _ l5, by rw [List.append_nil, List.take_zero, List.append_nil]; exact p5.tups (Tups.of s6)⟩ ?_ ?_⟩
      · rintro k σ H7 hk ⟨x5, nw, rfl, g7, g8, g9⟩
        rw [hto] at hk
        have hku : k < us.length := by omega
        have eu : us[k]? = some us[k] := List.getElem?_eq_getElem hku
        have ew : ws[k]? = some ws[k] := List.getElem?_eq_getElem hk
        obtain ⟨d1, f1, f2⟩ := du0.get eu
        obtain ⟨d2, f3, f4⟩ := dw0.get ew
        rw [f1] at f3
        cases f3
        have lg : (xr ++ nw).length = (dr ++ is.take k).length := Paired.length g9
        have ln := len_le_nodesL (dr ++ is.take k)
        rw [nodesL_append] at ln
        have lt := nodesL_take is k
        refine ⟨_, rfl, .inl ⟨rfl, _, SqL.of g8⟩, _, rfl, _, rfl, ix_of (sq_same g7 hu0) (by rw [Int.zero_add]; exact atI_nat eu) ?_⟩
        refine ⟨_, rfl, _, rfl, ix_of (sq_same g7 hw0) (by rw [Int.zero_add]; exact atI_nat ew) ?_⟩
        refine ⟨by show 2 ≤ sizeLine; decide, fun e5 he5 => ?_⟩
        have s8 := same_new he5 (.tup [us[k], ws[k]])
        have hle : l ≠ e5 := ne_of_none g8 he5
        refine ⟨l, xr ++ nw, .ref e5, rfl, rfl, s8 _ _ g8, by rw [sizeLine_eq]; omega, ?_⟩
        have t8 : Tups H7 (upd (upd H7 e5 (.tup [us[k], ws[k]])) l (.lst (xr ++ nw ++ [.ref e5]))) := (Tups.of s8).trans (tups_upd fun xs e => by rw [s8 _ _ g8] at e; cases e)
        refine ⟨_, nw ++ [.ref e5], rfl, fun b o e => ?_, by rw [upd_same, List.append_assoc], ?_⟩
        · rw [upd_ne (ne_of_none e hHl)]
          exact s8 _ _ (g7 _ _ e)
        · rw [List.take_add_one, f1, ← List.append_assoc, ← List.append_assoc]
          refine Paired.snoc (g9.tups t8) ⟨e5, us[k], ws[k], rfl, ?_, f2, f4⟩
          rw [upd_ne (Ne.symm hle)]
          exact upd_same
      · rintro σ H7 ⟨x5, nw, rfl, g7, g8, g9⟩
        rw [hto, lw, List.take_length] at g9
        refine ⟨nodesL (dr ++ is), ?_, xr ++ nw, dr ++ is, _, _, _, rfl, g7, g8, g9, rfl, ?_, ?_, ?_⟩
        · rw [hnl, nodesL_append, nis]
          omega
        · rw [lay_append, g3r, lays]
          rfl
        · intro d hd
          rcases List.mem_append.mp hd with hd | hd
          · exact g4r d hd
          · exact deps d hd
        · rw [nodesL_append]
          rw [nis] at g5
          omega
    · cases dv
      cases du
      refine ⟨_, c, _, _, _, false, rfl, upd_same, .non, isi2_of isi_nl isi_nt, false, rfl, iteF ?_⟩
      refine ⟨_, rfl, _, _, _, false, rfl, .non, isi_ns, false, rfl, iteF ?_⟩
      refine ⟨_, rfl, _, _, _, false, rfl, .non, isi_nb, false, rfl, iteF ?_⟩
      refine ⟨_, rfl, _, rfl, iteT ?_⟩
      refine ⟨_, rfl, _, rfl, iteF ?_⟩
      exact fin rfl s6
    · cases dv
      cases du
      refine ⟨_, c, _, _, _, false, rfl, upd_same, .bl _, isi2_of isi_bl isi_bt, false, rfl, iteF ?_⟩
      refine ⟨_, rfl, _, _, _, false, rfl, .bl _, isi_bs, false, rfl, iteF ?_⟩
      refine ⟨_, rfl, _, _, _, true, rfl, .bl _, isi_bb, true, rfl, iteT ?_⟩
      refine ⟨_, rfl, _, _, _, true, rfl, .bl _, isi_bb, true, rfl, iteF ?_⟩
      refine ⟨_, rfl, _, rfl, rfl, _, rfl, iteNS rfl ?_⟩
      exact fin rfl s6
    · cases dv
      cases du
      refine ⟨_, c, _, _, _, false, rfl, upd_same, .int _, isi2_of isi_il isi_it, false, rfl, iteF ?_⟩
      refine ⟨_, rfl, _, _, _, false, rfl, .int _, isi_is, false, rfl, iteF ?_⟩
      refine ⟨_, rfl, _, _, _, false, rfl, .int _, isi_ib, false, rfl, iteF ?_⟩
      refine ⟨_, rfl, _, rfl, iteF ?_⟩
      refine ⟨_, rfl, _, _, _, true, rfl, .int _, isi_ii, true, rfl, iteF ?_⟩
      refine ⟨_, rfl, _, _, _, false, rfl, .int _, isi_ib, false, rfl, iteF ?_⟩
      refine ⟨_, rfl, _, rfl, rfl, _, rfl, iteNS rfl ?_⟩
      exact fin rfl s6
    · cases dv
      cases du
      refine ⟨_, c, _, _, _, false, rfl, upd_same, .str _, isi2_of isi_sl isi_st, false, rfl, iteF ?_⟩
      refine ⟨_, rfl, _, _, _, true, rfl, .str _, isi_ss, true, rfl, iteT ?_⟩
      refine ⟨_, rfl, _, _, _, true, rfl, .str _, isi_ss, true, rfl, iteF ?_⟩
      refine ⟨_, rfl, _, rfl, rfl, _, rfl, iteNS rfl ?_⟩
      exact fin rfl s6
end
end K01

set_option Elab.async false
set_option linter.all false
set_option maxRecDepth 100000
namespace K01
open PySem L2 Sb
/-! ### _law_drawn_things -/
theorem mk_th {H : Hp} {p : Addr} {w : Str} {vs : List V} {ps : List Th} (hp : H p = none) (h : AreTh H vs ps) : IsTh (upd H p (.tup (.str w :: vs))) (.ref p) (.mk w ps) := .mk upd_same (h.same (same_new hp _))
/-- what a thing that is made of t and u may be -/
structure MadeOf (t u : Th) (r : Th) : Prop where
  ok : t.ok = true → u.ok = true → r.ok = true
  dep : r.depth ≤ max t.depth u.depth + 1
  siz : r.size ≤ t.size + u.size + 2
  sh : t.short = true → u.short = true → r.short = true
  pts : ∀ p ∈ r.parts, p = t ∨ p = u ∨ p = .mk "tab" []
theorem made1 {t u : Th} {w : Str} (hw : wOk w = true) : MadeOf t u (.mk w [t]) := ⟨fun a _ => by simp [Th.ok, okL, wOk.str hw, a], by simp only [Th.depth, depthL]; omega, by simp only [Th.size, sizeL]; omega, fun a _ => by simp [Th.short, shortL, wOk.len hw, a], fun p hp => by simp only [Th.parts, List.mem_cons, List.not_mem_nil, or_false] at hp; exact .inl hp⟩
theorem made2 {t u : Th} {w : Str} (hw : wOk w = true) : MadeOf t u (.mk w [t, u]) := ⟨fun a b => by simp [Th.ok, okL, wOk.str hw, a, b], by simp only [Th.depth, depthL]; omega, by simp only [Th.size, sizeL]; omega, fun a b => by simp [Th.short, shortL, wOk.len hw, a, b], fun p hp => by simp only [Th.parts, List.mem_cons, List.not_mem_nil, or_false] at hp; exact hp.elim .inl (fun h => .inr (.inl h))⟩
theorem made3 {t u : Th} {w : Str} (hw : wOk w = true) (hx : wOk "tab" = true) : MadeOf t u (.mk w [t, u, .mk "tab" []]) := ⟨fun a b => by simp [Th.ok, okL, wOk.str hw, wOk.str hx, a, b], by have := depth_pos t; simp only [Th.depth, depthL]; omega, by simp only [Th.size, sizeL]; omega, fun a b => by simp [Th.short, shortL, wOk.len hw, wOk.len hx, a, b], fun p hp => by simp only [Th.parts, List.mem_cons, List.not_mem_nil, or_false] at hp; exact hp⟩
theorem made0 {t u : Th} {w : Str} (hw : wOk w = true) : MadeOf t u (.mk w []) := ⟨fun a b => by simp [Th.ok, okL, wOk.str hw], by simp only [Th.depth, depthL]; omega, by simp only [Th.size, sizeL]; omega, fun a b => by simp [Th.short, shortL, wOk.len hw], fun p hp => by simp [Th.parts] at hp⟩
/-- a list of four such things -/
def Four (H : Hp) (l : Addr) (t u : Th) : Prop := ∃ vs : List V, H l = some (.lst vs) ∧ vs.length = 4 ∧ ∀ v ∈ vs, ∃ r, IsTh H v r ∧ MadeOf t u r
theorem drawn_more {ts : List Th} {m a b : Nat} {t u r : Th} (D : Drawn ts m) (ha : ts[a]? = some t) (hb : ts[b]? = some u) (hb5 : b < 5) (R : MadeOf t u r) : Drawn (ts ++ [r]) (m + 1) := by
  have la : a < ts.length := (List.getElem?_eq_some_iff.mp ha).1
  have lb : b < ts.length := (List.getElem?_eq_some_iff.mp hb).1
  have hl := D.len
  have cases : ∀ (j : Nat) s, (ts ++ [r])[j]? = some s → ts[j]? = some s ∨ (j = ts.length ∧ s = r) := fun j s e => by
    rcases Nat.lt_or_ge j ts.length with h | h
    · left
      rw [List.getElem?_append_left h] at e
      exact e
    · right
      rw [List.getElem?_append_right h] at e
      have hj : j - ts.length = 0 := by
        have := (List.getElem?_eq_some_iff.mp e).1
        simp at this
        omega
      rw [hj] at e
      simp at e
      exact ⟨by omega, e.symm⟩
  have d1 := D.dep a t ha
  have d2 := D.dep b u hb
  have d3 := R.dep
  have z1 := D.any a t ha
  have z2 := D.tri b u hb (by omega)
  have z3 := R.siz
  refine ⟨by rw [List.length_append, List.length_singleton]; omega, fun s hs => ?_, fun j s e => ?_, fun j s e hj => ?_, fun j s e hj => ?_, fun j s e hj => ?_, fun j s e => ?_, fun s hs => by
      rcases List.mem_append.mp hs with h | h
      · exact D.sh s h
      · rw [List.mem_singleton] at h
        subst h
        exact R.sh (D.sh t (List.mem_of_getElem? ha)) (D.sh u (List.mem_of_getElem? hb)), by rw [List.getElem?_append_left (by omega)]; exact D.tab, fun s hs p hp => ?_⟩
  · rcases List.mem_append.mp hs with h | h
    · exact D.ok s h
    · rw [List.mem_singleton] at h
      subst h
      exact R.ok (D.ok t (List.mem_of_getElem? ha)) (D.ok u (List.mem_of_getElem? hb))
  · rcases cases j s e with h | ⟨rfl, rfl⟩
    · exact D.dep j s h
    · omega
  · rcases cases j s e with h | ⟨rfl, rfl⟩
    · exact D.one j s h hj
    · omega
  · rcases cases j s e with h | ⟨rfl, rfl⟩
    · exact D.two j s h hj
    · have := D.one a t ha (by omega)
      have := D.one b u hb (by omega)
      omega
  · rcases cases j s e with h | ⟨rfl, rfl⟩
    · exact D.tri j s h hj
    · have := D.two a t ha (by omega)
      have := D.two b u hb (by omega)
      omega
  · rcases cases j s e with h | ⟨rfl, rfl⟩
    · exact D.any j s h
    · omega
  · rcases List.mem_append.mp hs with h | h
    · exact List.mem_append_left _ (D.cl s h p hp)
    · rw [List.mem_singleton] at h
      subst h
      refine List.mem_append_left _ ?_
      rcases R.pts p hp with h | h | h
      · rw [h]; exact List.mem_of_getElem? ha
      · rw [h]; exact List.mem_of_getElem? hb
      · rw [h]; exact List.mem_of_getElem? D.tab
theorem at_mod {α : Type} (xs : List α) (i : Int) (h0 : 0 ≤ i) (h1 : i < xs.length) : ∃ v, atI xs i = some v ∧ xs[i.toNat]? = some v := by
  have hi : i.toNat < xs.length := by omega
  have e : i = ((i.toNat : Nat) : Int) := by omega
  have q := atI_nat (List.getElem?_eq_getElem hi)
  rw [← e] at q
  exact ⟨_, q, List.getElem?_eq_getElem hi⟩
section
variable {P : Program} {w : World} {K : PySem.W.Frag} {mg : Str → Option Value} {base : Heap}
theorem scDrawn : FnScope ["_law_cells", "_law_things", "_law_cell", "_law_rest", "_law_one", "_law_other", "_law_made", "_law_word", "_law_three"] ["_law_cells"] (defScope sDrawn) := ⟨rfl, rfl, rfl, by decide +kernel, rfl, by decide +kernel, by decide +kernel⟩
set_option maxHeartbeats 4000000 in
theorem ok_drawn {f g : Addr} {fd gd : FuncData} (F : Fun K "_law_drawn_things" "_law_drawn_things" sDrawn f fd) (B : Blt mg) (G : FnOk P w K mg base CX0 1 g gd ["_law_cell"] spWord) (kG : PySem.W.keepIn K (.ref g) = true) (bG : Binds K gd ["_law_cell"] []) (mG : mg "_law_any_word" = some (.ref g)) :
    FnOk P w K mg base CX0 2 f fd ["_law_cells"] (spDrawn K) := by
  refine F.ok scDrawn (fun vs H Q E h => ?_) (fun cdv A outer s H vs Q E hr h => ?_)
  · obtain ⟨a, ns, rfl, _⟩ := h
    rfl
  obtain ⟨a, ns, rfl, hS, hlen, q⟩ := h
  have nd := scDrawn.nd
  refine ⟨_, pss_cons (ps_set (i := 1) nd rfl (Or.inl rfl) (pe_lst (pa_cons (pe_tup (pa_cons pe_str pa_nil)) (pa_cons (pe_tup (pa_cons pe_str pa_nil)) (pa_cons (pe_tup (pa_cons pe_str pa_nil)) pa_nil)))))
    (pss_cons (ps_for PassesOwn.never rfl (pi_list (pv 0)) (pg_name (i := 2) nd rfl (Or.inl rfl))
      (pss_cons (ps_set (i := 3) nd rfl (Or.inl rfl) (pe_op op_fdiv (pv 2) pe_int))
      (pss_cons (ps_set (i := 4) nd rfl (Or.inl rfl) (pe_ix ix_list (pv 1) (pe_op op_mod (pv 3) (pe_callB call_len_seq rfl B.len PySem.boot_len (pa_cons (pv 1) pa_nil))) (fun _ _ => rfl)))
      (pss_cons (ps_set (i := 5) nd rfl (Or.inl rfl) (pe_ix ix_list (pv 1) (pe_op op_mod (pe_op op_fdiv (pv 3) pe_int) (pe_callB (call_min2 rfl) rfl B.min PyProof.Rows.boot_min (pa_cons pe_int (pa_cons (pe_callB call_len_seq rfl B.len PySem.boot_len (pa_cons (pv 1) pa_nil)) pa_nil)))) (fun _ _ => rfl)))
      (pss_cons (ps_set (i := 6) nd rfl (Or.inl rfl) (pe_lst (pa_cons (pe_tup (pa_cons pe_str (pa_cons (pv 4) pa_nil))) (pa_cons (pe_tup (pa_cons pe_str (pa_cons (pv 4) (pa_cons (pv 5) pa_nil)))) (pa_cons (pe_tup (pa_cons pe_str (pa_cons (pv 4) (pa_cons (pv 5) pa_nil)))) (pa_cons (pe_tup (pa_cons pe_str pa_nil)) pa_nil))))))
      (pss_cons (ps_if (pt_cmpR op_eq (pe_op op_mod (pv 2) pe_int) pe_int (nomark _))
        (pss_cons (ps_set (i := 7) nd rfl (Or.inl rfl) (pe_ix ix_list (pe_lst (pa_cons (pe_call G hr rfl mG kG bG .nil pass0 (pa_cons (pe_op op_fdiv (pv 2) pe_int) pa_nil)) (pa_cons pe_str pa_nil))) (pe_op op_mod (pe_op op_fdiv (pv 2) pe_int) pe_int) (fun _ _ => rfl)))
        (pss_cons (ps_set (i := 8) nd rfl (Or.inl rfl) (pe_tup (pa_cons (pv 7) (pa_cons (pv 4) (pa_cons (pv 5) (pa_cons (pe_tup (pa_cons pe_str pa_nil)) pa_nil))))))
        (pss_one (ps_set (i := 6) nd rfl (Or.inl rfl) (pe_lst (pa_cons (pe_tup (pa_cons (pv 7) (pa_cons (pv 4) pa_nil))) (pa_cons (pe_tup (pa_cons (pv 7) (pa_cons (pv 4) (pa_cons (pv 5) pa_nil)))) (pa_cons (pv 8) (pa_cons (pe_tup (pa_cons (pv 7) pa_nil)) pa_nil)))))))))
        pss_nil)
      (pss_one (ps_expr (pe_bm PySem.F.plainAttrs_list PySem.F.slot_list_append PySem.F.type_list_append mt_append (pv 1) (pa_cons (pe_ix ix_list (pv 6) (pe_op op_mod (pv 2) pe_int) (fun _ _ => rfl)) pa_nil))))))))))
    (pss_one (ps_ret (pv 1)))), ?_⟩
  have sab : wOk ("sab" : Str) = true := by decide +kernel
  have tab : wOk ("tab" : Str) = true := by decide +kernel
  have sob : wOk ("sob" : Str) = true := by decide +kernel
  have sat : wOk ("sat" : Str) = true := by decide +kernel
  have fig : wOk ("fig" : Str) = true := by decide +kernel
  have fog : wOk ("fog" : Str) = true := by decide +kernel
  have hog : wOk ("hog" : Str) = true := by decide +kernel
  refine ⟨by show 1 ≤ sizeLine; decide, fun p1 h1 => ⟨by show 1 ≤ sizeLine; decide, fun p2 h2 => ⟨by show 1 ≤ sizeLine; decide, fun p3 h3 => ⟨by show 3 ≤ sizeLine; decide, fun p hp => ?_⟩⟩⟩⟩
  have s1 := same_new h1 (.tup [.str "sab"])
  have s2 := same_new h2 (.tup [.str "tab"])
  have s3 := same_new h3 (.tup [.str "sob"])
  have s4 := same_new hp (.lst [.ref p1, .ref p2, .ref p3])
  have hpn : H p = none := ((s1.trans s2).trans s3).free hp
  have i1 : IsTh _ (.ref p1) (.mk "sab" []) := (mk_th (w := "sab") h1 .nil).same ((s2.trans s3).trans s4)
  have i2 : IsTh _ (.ref p2) (.mk "tab" []) := (mk_th (w := "tab") h2 .nil).same (s3.trans s4)
  have i3 : IsTh _ (.ref p3) (.mk "sob" []) := (mk_th (w := "sob") h3 .nil).same s4
  refine ⟨_, rfl, a, rfl, ⟨_, (((s1.trans s2).trans s3).trans s4).seq hS⟩, for_list (K := K) (a := a) (xs := ns.map V.int) (fun i σ H2 => ∃ (us : List V) (ts : List Th) (x2 x3 x4 x5 x6 x7 x8 : Option V), σ = [some (.ref a), some (.ref p), x2, x3, x4, x5, x6, x7, x8] ∧ Same H H2 ∧ H2 p = some (.lst us) ∧ AreTh H2 us ts ∧ Drawn ts i)
    ⟨_, _, _, _, _, _, _, _, _, rfl, ((s1.trans s2).trans s3).trans s4, upd_same, .cons i1 (.cons i2 (.cons i3 .nil)), ?_⟩ (fun i σ H2 _ ⟨_, _, _, _, _, _, _, _, _, _, g, _⟩ => g.seq hS) ?_ ?_⟩
  · refine ⟨rfl, fun t ht => ?_, fun j t e => ?_, fun j t e _ => ?_, fun j t e _ => ?_, fun j t e _ => ?_, fun j t e => ?_, fun t ht => by
      simp at ht
      rcases ht with rfl | rfl | rfl <;> decide +kernel, rfl, fun t ht p hp => ?_⟩
    · simp at ht
      rcases ht with rfl | rfl | rfl
      · simp [Th.ok, okL, wOk.str sab]
      · simp [Th.ok, okL, wOk.str tab]
      · simp [Th.ok, okL, wOk.str sob]
    rotate_right
    · simp at ht
      rcases ht with rfl | rfl | rfl <;> simp [Th.parts] at hp
    all_goals
      have hm := List.mem_of_getElem? e
      simp at hm
      rcases hm with rfl | rfl | rfl <;> simp [Th.depth, depthL, Th.size, sizeL]
  · rintro i y σ H2 hi ⟨us, ts, x2, x3, x4, x5, x6, x7, x8, rfl, g, g1, g2, D⟩
    obtain ⟨c, rfl⟩ : ∃ z, y = V.int z := by
      rw [List.getElem?_map] at hi
      cases e : ns[i]? with
      | none => rw [e] at hi; cases hi
      | some z => rw [e] at hi; exact ⟨z, (Option.some.inj hi).symm⟩
    have hil : i < (ns.map V.int).length := (List.getElem?_eq_some_iff.mp hi).1
    rw [List.length_map] at hil
    have lu := g2.length
    have ld := D.len
    have hL : (us.length : Int) = 3 + i := by omega
    -- rest, one, other
    refine ⟨_, rfl, _, _, rfl, rfl, ⟨by decide, by decide⟩, ?_⟩
    obtain ⟨v1, a1, b1⟩ := at_mod us (c / 4 % (us.length : Int)) (Int.emod_nonneg _ (by omega)) (Int.emod_lt_of_pos _ (by omega))
    refine ⟨_, rfl, _, rfl, _, rfl, p, us, rfl, .inl (SqL.of g1), _, _, rfl, rfl, (by show (0 : Int) < us.length; omega), p, us, _, v1, rfl, rfl, SqL.of g1, a1, ?_⟩
    have hmin : (if (us.length : Int) < 5 then (us.length : Int) else 5) ≤ us.length ∧ 0 < (if (us.length : Int) < 5 then (us.length : Int) else 5) ∧ (if (us.length : Int) < 5 then (us.length : Int) else 5) ≤ 5 := by split <;> omega
    obtain ⟨v2, a2, b2⟩ := at_mod us (c / 4 / 5 % (if (us.length : Int) < 5 then (us.length : Int) else 5)) (Int.emod_nonneg _ (by omega)) (Int.lt_of_lt_of_le (Int.emod_lt_of_pos _ hmin.2.1) hmin.1)
    have lt5 : (c / 4 / 5 % (if (us.length : Int) < 5 then (us.length : Int) else 5)).toNat < 5 := by
      have h1 := Int.emod_lt_of_pos (c / 4 / 5) hmin.2.1
      have h2 := Int.emod_nonneg (c / 4 / 5) (Int.ne_of_gt hmin.2.1)
      have h3 := hmin.2.2
      omega
    refine ⟨_, rfl, _, rfl, _, _, rfl, rfl, ⟨by decide, by decide⟩, _, rfl, p, us, rfl, .inl (SqL.of g1), 5, _, rfl, _, _, rfl, rfl, hmin.2.1, p, us, _, v2, rfl, rfl, SqL.of g1, a2, ?_⟩
    obtain ⟨t1, c1, k1⟩ := g2.get b1
    obtain ⟨t2, c2, k2⟩ := g2.get b2
    -- made
    refine ⟨_, rfl, by show 2 ≤ sizeLine; decide, fun q1 hq1 => ⟨_, rfl, _, rfl, by show 3 ≤ sizeLine; decide, fun q2 hq2 => ⟨_, rfl, _, rfl, by show 3 ≤ sizeLine; decide, fun q3 hq3 => ⟨by show 1 ≤ sizeLine; decide, fun q4 hq4 => ⟨by show 4 ≤ sizeLine; decide, fun l hl => ?_⟩⟩⟩⟩⟩
    have e1 := same_new hq1 (.tup [.str "fig", v1])
    have e2 := same_new hq2 (.tup [.str "fog", v1, v2])
    have e3 := same_new hq3 (.tup [.str "fig", v1, v2])
    have e4 := same_new hq4 (.tup [.str "sat"])
    have e5 := same_new hl (.lst [.ref q1, .ref q2, .ref q3, .ref q4])
    have e15 := (((e1.trans e2).trans e3).trans e4).trans e5
    have m1 := (mk_th (w := "fig") hq1 (.one k1)).same (((e2.trans e3).trans e4).trans e5)
    have m2 := (mk_th (w := "fog") hq2 (.cons (k1.same e1) (.one (k2.same e1)))).same ((e3.trans e4).trans e5)
    have m3 := (mk_th (w := "fig") hq3 (.cons (k1.same (e1.trans e2)) (.one (k2.same (e1.trans e2))))).same (e4.trans e5)
    have m4 := (mk_th (w := "sat") hq4 .nil).same e5
    generalize hH3 : upd (upd (upd (upd (upd H2 q1 (.tup [.str "fig", v1])) q2 (.tup [.str "fog", v1, v2])) q3 (.tup [.str "fig", v1, v2])) q4 (.tup [.str "sat"])) l (.lst [.ref q1, .ref q2, .ref q3, .ref q4]) = H3 at *
    have four3 : Four H3 l t1 t2 := by
      refine ⟨_, by rw [← hH3]; exact upd_same, rfl, fun v hv => ?_⟩
      simp at hv
      rcases hv with rfl | rfl | rfl | rfl
      · exact ⟨_, m1, made1 fig⟩
      · exact ⟨_, m2, made2 fog⟩
      · exact ⟨_, m3, made2 fig⟩
      · exact ⟨_, m4, made0 sat⟩
    clear m1 m2 m3 m4 hH3 e1 e2 e3 e4 e5
    -- if cell % 9 == 8
    refine ⟨_, rfl, _, _, rfl, rfl, (by show (0 : Int) < 9; decide), rfl, _, rfl, ?_⟩
    refine ite2 (fun _ => ?_) (fun _ => ?_)
    · refine ⟨_, rfl, _, _, rfl, rfl, ⟨by decide, by decide⟩, _, rfl, fun x hx => ⟨by show 2 ≤ sizeLine; decide, fun l2 hl2 => ?_⟩⟩
      have d1 := same_new hl2 (.lst [.str x, .str "hog"])
      obtain ⟨wv, a3, b3⟩ := at_mod [V.str x, V.str "hog"] (c / 36 % 2) (Int.emod_nonneg _ (by decide)) (Int.emod_lt_of_pos _ (by decide))
      have hwv : ∃ xw, wv = .str xw ∧ wOk xw = true := by
        have hm := List.mem_of_getElem? b3
        simp at hm
        rcases hm with rfl | rfl
        · exact ⟨_, rfl, hx⟩
        · exact ⟨_, rfl, hog⟩
      obtain ⟨xw, rfl, hxw⟩ := hwv
      refine ⟨_, rfl, _, _, rfl, rfl, ⟨by decide, by decide⟩, _, _, rfl, rfl, (by show (0 : Int) < 2; decide), l2, _, _, _, rfl, rfl, SqL.of upd_same, a3, ?_⟩
      refine ⟨_, rfl, _, rfl, _, rfl, by show 1 ≤ sizeLine; decide, fun r1 hr1 => ⟨by show 4 ≤ sizeLine; decide, fun r2 hr2 => ?_⟩⟩
      have d2 := same_new hr1 (.tup [.str "tab"])
      have d3 := same_new hr2 (.tup [.str xw, v1, v2, .ref r1])
      refine ⟨_, rfl, _, rfl, by show 2 ≤ sizeLine; decide, fun q5 hq5 => ⟨_, rfl, _, rfl, _, rfl, by show 3 ≤ sizeLine; decide, fun q6 hq6 => ⟨_, rfl, _, rfl, by show 1 ≤ sizeLine; decide, fun q7 hq7 => ⟨by show 4 ≤ sizeLine; decide, fun l3 hl3 => ?_⟩⟩⟩⟩
      have d4 := same_new hq5 (.tup [.str xw, v1])
      have d5 := same_new hq6 (.tup [.str xw, v1, v2])
      have d6 := same_new hq7 (.tup [.str xw])
      have d7 := same_new hl3 (.lst [.ref q5, .ref q6, .ref r2, .ref q7])
      have z13 := d1
      have z2 := e15.trans d1
      have z3 := z2.trans d2
      have z4 := z3.trans d3
      have z5 := z4.trans d4
      have z6 := z5.trans d5
      have tb := (mk_th (w := "tab") hr1 .nil)
      have n1 := (mk_th (w := xw) hr2 (.cons (k1.same z3) (.cons (k2.same z3) (.one tb)))).same (((d4.trans d5).trans d6).trans d7)
      have n2 := (mk_th (w := xw) hq5 (.one (k1.same z4))).same ((d5.trans d6).trans d7)
      have n3 := (mk_th (w := xw) hq6 (.cons (k1.same z5) (.one (k2.same z5)))).same (d6.trans d7)
      have n4 := (mk_th (w := xw) hq7 .nil).same d7
      have zz := (z6.trans d6).trans d7
      have up := @upd_same (upd (upd (upd (upd (upd (upd H3 l2 (.lst [.str x, .str "hog"])) r1 (.tup [.str "tab"])) r2 (.tup [.str xw, v1, v2, .ref r1])) q5 (.tup [.str xw, v1])) q6 (.tup [.str xw, v1, v2])) q7 (.tup [.str xw])) l3 (.lst [.ref q5, .ref q6, .ref r2, .ref q7])
      generalize upd (upd (upd (upd (upd (upd (upd H3 l2 (.lst [.str x, .str "hog"])) r1 (.tup [.str "tab"])) r2 (.tup [.str xw, v1, v2, .ref r1])) q5 (.tup [.str xw, v1])) q6 (.tup [.str xw, v1, v2])) q7 (.tup [.str xw])) l3 (.lst [.ref q5, .ref q6, .ref r2, .ref q7]) = H4 at *
      have four4 : Four H4 l3 t1 t2 := by
        refine ⟨_, up, rfl, fun v hv => ?_⟩
        simp at hv
        rcases hv with rfl | rfl | rfl | rfl
        · exact ⟨_, n2, made1 hxw⟩
        · exact ⟨_, n3, made2 hxw⟩
        · exact ⟨_, n1, made3 hxw tab⟩
        · exact ⟨_, n4, made0 hxw⟩
      obtain ⟨fs, hf, lf, af⟩ := four4
      obtain ⟨v, av, bv⟩ := at_mod fs (c % 4) (Int.emod_nonneg _ (by decide)) (by rw [lf]; exact Int.emod_lt_of_pos _ (by decide))
      obtain ⟨r, hr', R⟩ := af v (List.mem_of_getElem? bv)
      have gp := zz _ _ g1
      refine ⟨_, rfl, .inl ⟨rfl, _, SqL.of gp⟩, _, rfl, _, rfl, _, _, rfl, rfl, (by show (0 : Int) < 4; decide), l3, fs, _, v, rfl, rfl, SqL.of hf, av, p, us, v, rfl, rfl, gp, by rw [sizeLine_eq]; omega, ?_⟩
      have tu := tups_upd (H := H4) (a := p) (o := .lst (us ++ [v])) fun xs e => by rw [gp] at e; cases e
      refine ⟨us ++ [v], ts ++ [r], _, _, _, _, _, _, _, rfl, fun b o e => ?_, upd_same, ((g2.same zz).append (.one hr')).tups tu, drawn_more D c1 c2 lt5 R⟩
      rw [upd_ne (ne_of_none e hpn)]
      exact zz _ _ (g _ _ e)
    · skip
      obtain ⟨fs, hf, lf, af⟩ := four3
      obtain ⟨v, av, bv⟩ := at_mod fs (c % 4) (Int.emod_nonneg _ (by decide)) (by rw [lf]; exact Int.emod_lt_of_pos _ (by decide))
      obtain ⟨r, hr', R⟩ := af v (List.mem_of_getElem? bv)
      have gp := e15 _ _ g1
      refine ⟨_, rfl, .inl ⟨rfl, _, SqL.of gp⟩, _, rfl, _, rfl, _, _, rfl, rfl, (by show (0 : Int) < 4; decide), l, fs, _, v, rfl, rfl, SqL.of hf, av, p, us, v, rfl, rfl, gp, by rw [sizeLine_eq]; omega, ?_⟩
      have tu := tups_upd (H := H3) (a := p) (o := .lst (us ++ [v])) fun xs e => by rw [gp] at e; cases e
      refine ⟨us ++ [v], ts ++ [r], _, _, _, _, _, _, _, rfl, fun b o e => ?_, upd_same, ((g2.same e15).append (.one hr')).tups tu, drawn_more D c1 c2 lt5 R⟩
      rw [upd_ne (ne_of_none e hpn)]
      exact e15 _ _ (g _ _ e)
  · rintro σ H2 ⟨us, ts, x2, x3, x4, x5, x6, x7, x8, rfl, g, g1, g2, D⟩
    rw [List.length_map] at D
    exact ⟨_, rfl, q p us ts H2 g hpn g1 g2 D⟩
end
end K01

set_option Elab.async false
set_option linter.all false
set_option maxRecDepth 100000
/-! Places of things: a thing's form is its word and the places of its parts. -/
namespace Sb
open PySem PySem.Spec PyProof.Rows L2
def jv (j : Nat) : V := .int (j : Int)
theorem jv_inj {i j : Nat} (h : jv i = jv j) : i = j := by
  unfold jv at h
  injection h with h
  omega
abbrev Fm := Str × List Nat
def fm (ts : List Th) (t : Th) : Fm := (t.word, t.parts.map fun p => ts.idxOf p)
def ik (i : Nat) : KD := .int (i : Int)
def fkey (f : Fm) : KD := .tup [.str f.1, .tup (f.2.map ik)]
theorem map_int_inj : ∀ {a b : List Nat}, a.map ik = b.map ik → a = b
  | [], [], _ => rfl
  | [], _ :: _, h => by simp at h
  | _ :: _, [], h => by simp at h
  | x :: a, y :: b, h => by
    simp only [List.map_cons, List.cons.injEq] at h
    have e : (x : Int) = (y : Int) := by have := h.1; unfold ik at this; injection this
    have t := map_int_inj h.2
    rw [t, show x = y by omega]
theorem fkey_inj {f g : Fm} (h : fkey f = fkey g) : f = g := by
  unfold fkey at h
  simp only [KD.tup.injEq, List.cons.injEq, KD.str.injEq, and_true] at h
  exact Prod.ext h.1 (map_int_inj h.2)
theorem idx_get {ts : List Th} {t : Th} (h : t ∈ ts) : ts[ts.idxOf t]? = some t := by
  have hl : ts.idxOf t < ts.length := List.idxOf_lt_length_of_mem h
  rw [List.getElem?_eq_getElem hl, List.getElem_idxOf hl]
theorem idx_of {ts : List Th} {t : Th} {j : Nat} (nd : ts.Nodup) (h : ts[j]? = some t) : ts.idxOf t = j := by
  obtain ⟨hj, e⟩ := List.getElem?_eq_some_iff.mp h
  subst e
  exact nd.idxOf_getElem j hj
theorem idx_inj {ts : List Th} {s t : Th} (hs : s ∈ ts) (ht : t ∈ ts) (e : ts.idxOf s = ts.idxOf t) : s = t := by
  have h1 := idx_get hs
  have h2 := idx_get ht
  rw [e, h2] at h1
  exact (Option.some.inj h1).symm
theorem idx_app {ts us : List Th} {t : Th} (h : t ∈ ts) : (ts ++ us).idxOf t = ts.idxOf t := by
  rw [List.idxOf_append, if_pos h]
theorem map_idx_inj {ts : List Th} : ∀ {a b : List Th}, (∀ x ∈ a, x ∈ ts) → (∀ x ∈ b, x ∈ ts) → a.map (fun p => ts.idxOf p) = b.map (fun p => ts.idxOf p) → a = b
  | [], [], _, _, _ => rfl
  | [], _ :: _, _, _, h => by simp at h
  | _ :: _, [], _, _, h => by simp at h
  | x :: a, y :: b, h1, h2, h => by
    simp only [List.map_cons, List.cons.injEq] at h
    rw [idx_inj (h1 x List.mem_cons_self) (h2 y List.mem_cons_self) h.1, map_idx_inj (fun z hz => h1 z (List.mem_cons_of_mem _ hz)) (fun z hz => h2 z (List.mem_cons_of_mem _ hz)) h.2]
theorem parts_in {ts : List Th} (cl : Closed ts) {t : Th} (h : t ∈ ts) : ∀ p ∈ t.parts, p ∈ ts := fun p hp => by
  refine cl t h p ?_
  cases t with
  | mk w ps =>
    simp only [Th.parts] at hp
    simp only [Th.inside, List.mem_append]
    left
    rw [insideL_flat, List.mem_flatMap]
    exact ⟨p, hp, self_in p⟩
theorem fm_inj {ts : List Th} {s t : Th} (hs : ∀ p ∈ s.parts, p ∈ ts) (ht : ∀ p ∈ t.parts, p ∈ ts) (e : fm ts s = fm ts t) : s = t := by
  cases s with
  | mk w ps =>
    cases t with
    | mk v qs =>
      unfold fm at e
      simp only [Th.word, Th.parts, Prod.mk.injEq] at e hs ht
      rw [e.1, map_idx_inj hs ht e.2]
theorem fm_app {ts us : List Th} {t : Th} (h : ∀ p ∈ t.parts, p ∈ ts) : fm (ts ++ us) t = fm ts t := by
  unfold fm
  refine Prod.ext rfl (List.map_congr_left fun p hp => idx_app (h p hp))
/-! ### over the heap -/
def FmAt (H : Hp) (x : V) (f : Fm) : Prop := ∃ c e, x = .ref c ∧ H c = some (.tup [.str f.1, .ref e]) ∧ H e = some (.tup (f.2.map jv))
theorem FmAt.tups {H H' : Hp} {x : V} {f : Fm} (e : Tups H H') (h : FmAt H x f) : FmAt H' x f := by
  obtain ⟨c, d, h1, h2, h3⟩ := h
  exact ⟨c, d, h1, e _ _ h2, e _ _ h3⟩
theorem dts_jv {H : Hp} : ∀ l : List Nat, Dts H (l.map jv) (kdL (l.map ik))
  | [] => by simp only [List.map_nil, kdL]; exact .nil
  | i :: r => by simp only [List.map_cons, kdL, ik, KD.toD]; exact .cons (.int _) (dts_jv r)
theorem lay_jv : ∀ l : List Nat, PyData.canLayAll0 (kdL (l.map ik)) = true
  | [] => by simp [kdL, PyData.canLayAll0]
  | i :: r => by simp only [List.map_cons, kdL]; simp only [PyData.canLayAll0, lay_jv r, Bool.and_true]; simp [ik, KD.toD, PyData.canLay0]
theorem dep_jv : ∀ l : List Nat, kdDep (l.map ik) = 0
  | [] => by simp [kdDep]
  | i :: r => by simp only [List.map_cons, kdDep, dep_jv r]; simp [ik, KD.depth]
theorem FmAt.key {H : Hp} {c : Addr} {f : Fm} (h : FmAt H (.ref c) f) (ok : PyData.strOk f.1 = true) : KeyV H c (fkey f) := by
  obtain ⟨c', e, h1, h2, h3⟩ := h
  cases h1
  unfold fkey
  refine ⟨?_, ?_, ?_⟩
  · simp only [KD.toD, kdL]
    exact .tup h2 (.cons (.str _) (.cons (.tup h3 (dts_jv f.2)) .nil))
  · simp only [KD.toD, kdL, PyData.canLay0, PyData.canLayAll0, ok, lay_jv, Bool.and_self]
  · simp only [KD.depth, kdDep, dep_jv]
    decide
def flds (a f d : Addr) : List (Str × V) := [("things", .ref a), ("forms", .ref f), ("known", .ref d)]
/-- the places of ts -/
structure Pl (P : Program) (w : World) (C : Addr) (H : Hp) (p a f d : Addr) (ts : List Th) : Prop where
  ob : ∃ dx, H p = some (.ins C dx (flds a f d))
  th : ∃ us, H a = some (.lst us) ∧ AreTh H us ts
  fo : ∃ ws, H f = some (.lst ws) ∧ Paired (FmAt H) ws (ts.map (fm ts))
  kn : ∃ kvs, DH P w H d kvs ∧ kvs.length ≤ ts.length ∧ (∀ (j : Nat) t, ts[j]? = some t → kval kvs (fkey (fm ts t)) = some (jv j)) ∧ ∀ k v, kval kvs k = some v → ∃ t ∈ ts, k = fkey (fm ts t)
  af : a ≠ f
  nd : ts.Nodup
  cl : Closed ts
  ok : ∀ t ∈ ts, t.ok = true ∧ t.depth ≤ 50
/-- all stays but the three, and nothing goes -/
structure Fr3 (a f d : Addr) (H H' : Hp) : Prop where
  keep : ∀ b o, H b = some o → b ≠ a → b ≠ f → b ≠ d → H' b = some o
  there : ∀ b, H' b = none → H b = none
theorem Fr3.refl {a f d : Addr} {H : Hp} : Fr3 a f d H H := ⟨fun _ _ e _ _ _ => e, fun _ h => h⟩
theorem Fr3.trans {a f d : Addr} {H H1 H2 : Hp} (x : Fr3 a f d H H1) (y : Fr3 a f d H1 H2) : Fr3 a f d H H2 := ⟨fun b o e h1 h2 h3 => y.keep b o (x.keep b o e h1 h2 h3) h1 h2 h3, fun b h => x.there b (y.there b h)⟩
theorem Fr3.of {a f d : Addr} {H H' : Hp} (g : Same H H') : Fr3 a f d H H' := ⟨fun b o e _ _ _ => g b o e, fun b h => g.free h⟩
section
variable {P : Program} {w : World} {C : Addr} {H H' : Hp} {p a f d : Addr} {ts : List Th}
theorem Fr3.tups (x : Fr3 a f d H H') (y : Pl P w C H p a f d ts) : Tups H H' := fun b xs e => by
  obtain ⟨us, t1, _⟩ := y.th
  obtain ⟨ws, f1, _⟩ := y.fo
  obtain ⟨kvs, n1, _⟩ := y.kn
  exact x.keep b _ e (ne_of e t1 (by intro z; cases z)) (ne_of e f1 (by intro z; cases z)) (ne_of e n1.at_ (by intro z; cases z))
theorem Pl.keep (x : Pl P w C H p a f d ts) (hp : ∀ o, H p = some o → H' p = some o) (ha : ∀ o, H a = some o → H' a = some o) (hf : ∀ o, H f = some o → H' f = some o) (hd : ∀ o, H d = some o → H' d = some o) (tu : Tups H H') : Pl P w C H' p a f d ts := by
  obtain ⟨dx, o1⟩ := x.ob
  obtain ⟨us, t1, t2⟩ := x.th
  obtain ⟨ws, f1, f2⟩ := x.fo
  obtain ⟨kvs, n1, n2, n3, n4⟩ := x.kn
  exact ⟨⟨dx, hp _ o1⟩, ⟨us, ha _ t1, t2.tups tu⟩, ⟨ws, hf _ f1, L2.Paired.mapP f2 fun _ _ h => h.tups tu⟩, ⟨kvs, ⟨hd _ n1.at_, keysAt_tups tu n1.keys⟩, n2, n3, n4⟩, x.af, x.nd, x.cl, x.ok⟩
theorem Pl.same (g : Same H H') (x : Pl P w C H p a f d ts) : Pl P w C H' p a f d ts := x.keep (g _) (g _) (g _) (g _) (Tups.of g)
/-- a list of someone else's is changed -/
theorem Pl.but {b : Addr} {zs zs' : List V} (x : Pl P w C H p a f d ts) (hb : H b = some (.lst zs)) (ba : b ≠ a) (bf : b ≠ f) : Pl P w C (upd H b (.lst zs')) p a f d ts := by
  obtain ⟨dx, o1⟩ := x.ob
  obtain ⟨kvs, n1, _⟩ := x.kn
  refine x.keep (fun o e => ?_) (fun o e => by rw [upd_ne (Ne.symm ba)]; exact e) (fun o e => by rw [upd_ne (Ne.symm bf)]; exact e) (fun o e => ?_) (tups_upd fun xs e => by rw [hb] at e; cases e)
  · rw [upd_ne (ne_of o1 hb (by intro z; cases z))]; exact e
  · rw [upd_ne (ne_of n1.at_ hb (by intro z; cases z))]; exact e
end
/-- things met within one, with their places -/
structure Nrr (H : Hp) (dn : Addr) (S : List Addr) (m : Nat) (ts : List Th) : Prop where
  at_ : ∃ kvs, H dn = some (.dT kvs) ∧ kvs.length ≤ m ∧ ∀ k v, valV kvs k = some v → ∃ l ∈ S, v = .ref l
  ls : ∀ l ∈ S, ∃ es, H l = some (.lst es) ∧ es.length ≤ m ∧ ∀ e ∈ es, ∃ c v, ∃ (j : Nat) (t : Th), e = .ref c ∧ H c = some (.tup [v, jv j]) ∧ IsTh H v t ∧ ts[j]? = some t
theorem Nrr.keep {H H' : Hp} {dn : Addr} {S : List Addr} {m m' : Nat} {ts ts' : List Th} (x : Nrr H dn S m ts) (hd : ∀ o, H dn = some o → H' dn = some o) (hl : ∀ l ∈ S, ∀ o, H l = some o → H' l = some o) (tu : Tups H H') (hts : ∀ (j : Nat) t, ts[j]? = some t → ts'[j]? = some t) (hm : m ≤ m') : Nrr H' dn S m' ts' := by
  obtain ⟨kvs, h1, h2, h3⟩ := x.at_
  refine ⟨⟨kvs, hd _ h1, by omega, h3⟩, fun l hS => ?_⟩
  obtain ⟨es, e1, e2, e3⟩ := x.ls l hS
  refine ⟨es, hl l hS _ e1, by omega, fun e he => ?_⟩
  obtain ⟨c, v, j, t, k1, k2, k3, k4⟩ := e3 e he
  exact ⟨c, v, j, t, k1, tu _ _ k2, k3.tups tu, hts j t k4⟩
theorem Nrr.same {H H' : Hp} {dn : Addr} {S : List Addr} {m : Nat} {ts : List Th} (g : Same H H') (x : Nrr H dn S m ts) : Nrr H' dn S m ts := x.keep (g _) (fun l _ => g l) (Tups.of g) (fun _ _ h => h) (Nat.le_refl _)
structure Fra (a f d dn : Addr) (S S' : List Addr) (H H' : Hp) : Prop where
  keep : ∀ b o, H b = some o → b ≠ a → b ≠ f → b ≠ d → b ≠ dn → b ∉ S → H' b = some o
  own : ∀ b ∈ S', b ∈ S ∨ H b = none
  sub : ∀ b ∈ S, b ∈ S'
  there : ∀ b, H' b = none → H b = none
theorem Fra.of {a f d dn : Addr} {S : List Addr} {H H' : Hp} (g : Same H H') : Fra a f d dn S S H H' := ⟨fun b o e _ _ _ _ _ => g b o e, fun _ h => .inl h, fun _ h => h, fun b h => g.free h⟩
theorem Fra.trans {a f d dn : Addr} {S S1 S2 : List Addr} {H H1 H2 : Hp} (x : Fra a f d dn S S1 H H1) (y : Fra a f d dn S1 S2 H1 H2) : Fra a f d dn S S2 H H2 := by
  refine ⟨fun b o e h1 h2 h3 h4 h5 => y.keep b o (x.keep b o e h1 h2 h3 h4 h5) h1 h2 h3 h4 fun z => ?_, fun b hb => ?_, fun b h => y.sub b (x.sub b h), fun b h => x.there b (y.there b h)⟩
  · rcases x.own b z with z | z
    · exact h5 z
    · rw [e] at z; cases z
  · rcases y.own b hb with h | h
    · exact x.own b h
    · exact .inr (x.there b h)
theorem Fra.tups {P : Program} {w : World} {C : Addr} {H H' : Hp} {p a f d dn : Addr} {S S' : List Addr} {ts : List Th} {m : Nat} (x : Fra a f d dn S S' H H') (y : Pl P w C H p a f d ts) (z : Nrr H dn S m ts) : Tups H H' := fun b xs e => by
  obtain ⟨us, t1, _⟩ := y.th
  obtain ⟨ws, f1, _⟩ := y.fo
  obtain ⟨kvs, n1, _⟩ := y.kn
  obtain ⟨kv, m1, _⟩ := z.at_
  refine x.keep b _ e (ne_of e t1 (by intro z; cases z)) (ne_of e f1 (by intro z; cases z)) (ne_of e n1.at_ (by intro z; cases z)) (ne_of e m1 (by intro z; cases z)) fun hb => ?_
  obtain ⟨es, h, _⟩ := z.ls b hb
  rw [e] at h
  cases h
/-! ### what is promised -/
def spPlInit (P : Program) (w : World) (C : Addr) : Sp := fun vs H Q _ => ∃ (p dx : Addr), vs = [.ref p] ∧ H p = some (.ins C dx []) ∧
  ∀ (a f d : Addr) (H' : Hp), Pl P w C H' p a f d [] → (∀ b o, H b = some o → b ≠ p → H' b = some o) → H a = none → H f = none → H d = none → Q .non H'
def spByForm (P : Program) (w : World) (C : Addr) : Sp := fun vs H Q _ => ∃ (p c : Addr) (v : V) (t : Th) (a f d : Addr) (ts : List Th), vs = [.ref p, v, .ref c] ∧ Pl P w C H p a f d ts ∧ IsTh H v t ∧ t.ok = true ∧ t.depth ≤ 50 ∧
  (∀ q ∈ t.parts, q ∈ ts) ∧ FmAt H (.ref c) (fm ts t) ∧ ts.length < 1000000 ∧
  ∀ (j : Nat) (H' : Hp), Pl P w C H' p a f d (if t ∈ ts then ts else ts ++ [t]) → (if t ∈ ts then ts else ts ++ [t])[j]? = some t → Fr3 a f d H H' → Q (jv j) H'
def spWithin (P : Program) (w : World) (C : Addr) (n : Nat) : Sp := fun vs H Q _ => ∃ (p dn : Addr) (v : V) (t : Th) (a f d : Addr) (S : List Addr) (m : Nat) (ts : List Th), vs = [.ref p, v, .ref dn] ∧ Pl P w C H p a f d ts ∧ Nrr H dn S m ts ∧ a ∉ S ∧ f ∉ S ∧
  IsTh H v t ∧ t.ok = true ∧ t.depth ≤ n ∧ t.depth ≤ 50 ∧ m + 2 * t.size ≤ 1000000 ∧ ts.length + t.size ≤ 1000000 ∧
  ∀ (j : Nat) (S' : List Addr) (H' : Hp), Pl P w C H' p a f d (ddup ts t.inside) → Nrr H' dn S' (m + 2 * t.size) (ddup ts t.inside) → (ddup ts t.inside)[j]? = some t → Fra a f d dn S S' H H' → Q (jv j) H'
def spPlaceOf (P : Program) (w : World) (C : Addr) : Sp := fun vs H Q _ => ∃ (p : Addr) (v : V) (t : Th) (a f d : Addr) (ts : List Th), vs = [.ref p, v] ∧ Pl P w C H p a f d ts ∧ IsTh H v t ∧ t.ok = true ∧ t.depth ≤ 50 ∧ ts.length + t.size ≤ 500000 ∧
  ∀ (j : Nat) (H' : Hp), Pl P w C H' p a f d (ddup ts t.inside) → (ddup ts t.inside)[j]? = some t → Fr3 a f d H H' → Q (jv j) H'
end Sb

set_option Elab.async false
set_option linter.all false
set_option maxRecDepth 100000
/-! A walk by which a thing comes to its place: the tables by which things are compared lie in one pool. -/
namespace L2
open PySem PySem.Spec PyProof.Rows
/-- a comprehension over a tuple, with a test -/
theorem comp_tupIf {K : PySem.W.Frag} {a p : Addr} {xs : List V} {g : TG} {tt : TT} {te : TE} {Q : Hp → Prop} {σ0 : St} {H0 : Hp} (Pv : Nat → List V → St → Hp → Prop) (hxs : xs.length ≤ sizeLine) (h0 : Pv 0 [] σ0 (upd H0 p (.lst [])))
    (hl : ∀ i ys σ H, i ≤ xs.length → Pv i ys σ H → SqT K H a xs)
    (hs : ∀ i x ys σ H, xs[i]? = some x → Pv i ys σ H → H p = some (.lst ys) → g x σ H fun σ2 H2 => tt σ2 H2 fun b H3 => if b = true then te σ2 H3 fun v H4 => H4 p = some (.lst ys) ∧ Pv (i + 1) (ys ++ [v]) σ2 (upd H4 p (.lst (ys ++ [v]))) else H3 p = some (.lst ys) ∧ Pv (i + 1) ys σ2 H3)
    (hd : ∀ ys σ H, ys.length ≤ xs.length → Pv xs.length ys σ H → H p = some (.lst ys) → Q H) : CompW p (Itt K a) g tt te Q σ0 (upd H0 p (.lst [])) := by
  refine ⟨fun i m σ H => m = xs.length - i ∧ i ≤ xs.length ∧ ∃ ys, ys.length ≤ i ∧ Pv i ys σ H ∧ H p = some (.lst ys), ⟨xs.length, by simp, Nat.zero_le _, [], Nat.le_refl _, h0, upd_same⟩, ?_⟩
  rintro i m σ H ⟨rfl, hi, ys, hy, pv, hp⟩
  have q := hl i ys σ H hi pv
  by_cases hlt : i < xs.length
  · refine .inr ⟨⟨xs, xs[i], q, by simp [hlt]⟩, fun v σ' H' => H' p = some (.lst ys) ∧ Pv (i + 1) (ys ++ [v]) σ' (upd H' p (.lst (ys ++ [v]))), fun σ' H' => H' p = some (.lst ys) ∧ Pv (i + 1) ys σ' H',
      fun v σ' H' ⟨e1, e2⟩ => ⟨ys, e1, by omega, xs.length - (i + 1), by omega, rfl, hlt, ys ++ [v], by simp [hy], e2, upd_same⟩, fun σ' H' ⟨e1, e2⟩ => ⟨xs.length - (i + 1), by omega, rfl, hlt, ys, by omega, e2, e1⟩, fun x H' y => ?_⟩
    obtain ⟨e, y⟩ := y
    subst e
    exact hs i x ys σ _ (y xs q) pv hp
  · have e : i = xs.length := by omega
    subst e
    exact .inl ⟨⟨xs, q, Nat.le_refl _⟩, hd ys σ H hy pv hp⟩
/-- x or y, of two names that hold ints -/
theorem pe_orVar {X : Cx} {a b : Expr} {pos : Pos} {i j : Nat} (ha : PE X a (tVar i)) (hb : PE X b (tVar j)) : PE X (.BoolOp .Or [a, b] pos) (fun σ H Q => ∃ x y, σ[i]? = some (some (.int x)) ∧ σ[j]? = some (some (.int y)) ∧ ∀ z : Int, Q (.int z) H) := by
  intro pins s σ H Q I h
  obtain ⟨x, y, h1, h2, q⟩ := h
  refine BoolOp_or (thn (ha pins s σ H (fun v H1 => v = .int x ∧ H1 = H) I ⟨_, h1, rfl, rfl⟩) fun v s1 ⟨x1, H1, I1, r1, e1, e2⟩ => ?_)
  subst e1 e2
  refine thn (tru_ok pins s1 σ H1 (.int x) v (fun k H2 => H2 = H1) I1 r1 ⟨_, rfl, rfl⟩) fun c s2 ⟨H2, I2, e⟩ => ?_
  subst e
  cases c with
  | true => exact ⟨.int x, H2, I2, r1, q x⟩
  | false => exact pe_one hb pins s2 σ H2 Q I2 ⟨_, h2, q y⟩
theorem joinI {T : Int → Prop} {G : Prop} (k : (∀ i, T i) → G) (h : ∀ i, T i) : G := k h
theorem join2 {F T : Addr → Hp → Prop} {G : Prop} (k : (∀ a H, F a H → T a H) → G) (h : ∀ a H, F a H → T a H) : G := k h
theorem joinTE {A B G : Prop} (k : A → B → G) (a : A) (b : B) : G := k a b
theorem at_end (xs : List V) (h : 0 < xs.length) : ∃ v, atI xs (-1) = some v ∧ xs[xs.length - 1]? = some v := by
  have hi : xs.length - 1 < xs.length := by omega
  refine ⟨_, ?_, List.getElem?_eq_getElem hi⟩
  unfold atI ixN
  rw [if_neg (by decide), if_pos (by omega)]
  have e : ((-1 : Int) + (xs.length : Int)).toNat = xs.length - 1 := by omega
  rw [e]
  show xs[xs.length - 1]? = _
  exact List.getElem?_eq_getElem hi
end L2
namespace Sb
open PySem PySem.Spec PyProof.Rows L2
def wfl (p : Addr) (n : Int) : List (Str × V) := [("places", .ref p), ("steps", .int n)]
theorem wfl_put (p : Addr) (n k : Int) : putF "steps" (.int k) (wfl p n) = wfl p k := by
  have h : ¬ (("places" : Str) = "steps") := by decide +kernel
  simp only [wfl, putF, if_neg h, if_true]
theorem wfl_mk (p : Addr) : putF "steps" (.int 0) (putF "places" (.ref p) []) = wfl p 0 := by
  have h : ¬ (("places" : Str) = "steps") := by decide +kernel
  simp only [wfl, putF, if_neg h]
def WkAt (CW : Addr) (H : Hp) (wk p : Addr) : Prop := ∃ dx n, H wk = some (.ins CW dx (wfl p n))
theorem wk_ne {C CW dx dw a f d p : Addr} {n : Int} : HO.ins C dx (flds a f d) ≠ HO.ins CW dw (wfl p n) := by
  intro z
  injection z with _ _ z
  have := congrArg List.length z
  simp [flds, wfl] at this
/-- the pool: tables D, and the lists S in them, of things met with their places -/
structure Nrw (H : Hp) (D S : List Addr) (m : Nat) (ts : List Th) : Prop where
  at_ : ∀ dn ∈ D, ∃ kvs, H dn = some (.dT kvs) ∧ kvs.length ≤ m ∧ ∀ k v, valV kvs k = some v → ∃ l ∈ S, v = .ref l
  ls : ∀ l ∈ S, ∃ es, H l = some (.lst es) ∧ es.length ≤ m ∧ ∀ e ∈ es, ∃ c v, ∃ (j : Nat) (t : Th), e = .ref c ∧ H c = some (.tup [v, jv j]) ∧ IsTh H v t ∧ ts[j]? = some t
theorem Nrw.keep {H H' : Hp} {D S : List Addr} {m m' : Nat} {ts ts' : List Th} (x : Nrw H D S m ts) (hd : ∀ d ∈ D, ∀ o, H d = some o → H' d = some o) (hl : ∀ l ∈ S, ∀ o, H l = some o → H' l = some o) (tu : Tups H H') (hts : ∀ (j : Nat) t, ts[j]? = some t → ts'[j]? = some t) (hm : m ≤ m') : Nrw H' D S m' ts' := by
  refine ⟨fun dn hD => ?_, fun l hS => ?_⟩
  · obtain ⟨kvs, h1, h2, h3⟩ := x.at_ dn hD
    exact ⟨kvs, hd dn hD _ h1, by omega, h3⟩
  · obtain ⟨es, e1, e2, e3⟩ := x.ls l hS
    refine ⟨es, hl l hS _ e1, by omega, fun e he => ?_⟩
    obtain ⟨c, v, j, t, k1, k2, k3, k4⟩ := e3 e he
    exact ⟨c, v, j, t, k1, tu _ _ k2, k3.tups tu, hts j t k4⟩
theorem Nrw.same {H H' : Hp} {D S : List Addr} {m : Nat} {ts : List Th} (g : Same H H') (x : Nrw H D S m ts) : Nrw H' D S m ts := x.keep (fun d _ => g d) (fun l _ => g l) (Tups.of g) (fun _ _ h => h) (Nat.le_refl _)
theorem Nrw.mono {H : Hp} {D S : List Addr} {m m' : Nat} {ts : List Th} (x : Nrw H D S m ts) (h : m ≤ m') : Nrw H D S m' ts := x.keep (fun _ _ _ h => h) (fun _ _ _ h => h) (fun _ _ h => h) (fun _ _ h => h) h
/-- one more table, empty -/
theorem Nrw.more {H : Hp} {D S : List Addr} {m : Nat} {ts : List Th} {c : Addr} (x : Nrw H D S m ts) (hc : H c = none) : Nrw (upd H c (.dT [])) (c :: D) S m ts := by
  have y := x.same (same_new hc (.dT []))
  refine ⟨fun dn hD => ?_, y.ls⟩
  rcases List.mem_cons.mp hD with rfl | hD
  · exact ⟨[], upd_same, Nat.zero_le _, fun k v e => by rw [valV_nil] at e; cases e⟩
  · exact y.at_ dn hD
structure Frw (a f d wk : Addr) (D D' S S' : List Addr) (H H' : Hp) : Prop where
  keep : ∀ b o, H b = some o → b ≠ a → b ≠ f → b ≠ d → b ≠ wk → b ∉ D → b ∉ S → H' b = some o
  ownD : ∀ b ∈ D', b ∈ D ∨ H b = none
  ownS : ∀ b ∈ S', b ∈ S ∨ H b = none
  subD : ∀ b ∈ D, b ∈ D'
  subS : ∀ b ∈ S, b ∈ S'
  there : ∀ b, H' b = none → H b = none
theorem Frw.of {a f d wk : Addr} {D S : List Addr} {H H' : Hp} (g : Same H H') : Frw a f d wk D D S S H H' := ⟨fun b o e _ _ _ _ _ _ => g b o e, fun _ h => .inl h, fun _ h => .inl h, fun _ h => h, fun _ h => h, fun b h => g.free h⟩
theorem Frw.trans {a f d wk : Addr} {D D1 D2 S S1 S2 : List Addr} {H H1 H2 : Hp} (x : Frw a f d wk D D1 S S1 H H1) (y : Frw a f d wk D1 D2 S1 S2 H1 H2) : Frw a f d wk D D2 S S2 H H2 := by
  refine ⟨fun b o e h1 h2 h3 h4 h5 h6 => y.keep b o (x.keep b o e h1 h2 h3 h4 h5 h6) h1 h2 h3 h4 (fun z => ?_) (fun z => ?_), fun b hb => ?_, fun b hb => ?_, fun b h => y.subD b (x.subD b h), fun b h => y.subS b (x.subS b h), fun b h => x.there b (y.there b h)⟩
  · rcases x.ownD b z with z | z
    · exact h5 z
    · rw [e] at z; cases z
  · rcases x.ownS b z with z | z
    · exact h6 z
    · rw [e] at z; cases z
  · rcases y.ownD b hb with h | h
    · exact x.ownD b h
    · exact .inr (x.there b h)
  · rcases y.ownS b hb with h | h
    · exact x.ownS b h
    · exact .inr (x.there b h)
theorem Frw.tups {P : Program} {w : World} {C CW : Addr} {H H' : Hp} {p a f d wk : Addr} {D D' S S' : List Addr} {ts : List Th} {m : Nat} (x : Frw a f d wk D D' S S' H H') (W : WkAt CW H wk p) (y : Pl P w C H p a f d ts) (z : Nrw H D S m ts) : Tups H H' := fun b xs e => by
  obtain ⟨us, t1, _⟩ := y.th
  obtain ⟨ws, f1, _⟩ := y.fo
  obtain ⟨kvs, n1, _⟩ := y.kn
  obtain ⟨dx, n, o1⟩ := W
  refine x.keep b _ e (ne_of e t1 (by intro z; cases z)) (ne_of e f1 (by intro z; cases z)) (ne_of e n1.at_ (by intro z; cases z)) (ne_of e o1 (by intro z; cases z)) (fun hb => ?_) fun hb => ?_
  · obtain ⟨kv, h, _⟩ := z.at_ b hb
    rw [e] at h
    cases h
  · obtain ⟨es, h, _⟩ := z.ls b hb
    rw [e] at h
    cases h
/-- behind setdefault -/
theorem nrw_new {H H1 H3 : Hp} {dn q : Addr} {D S : List Addr} {m : Nat} {ts : List Th} {k : List Key} {kvs : List (List Key × V)} {nv : V} (x : Nrw H D S m ts) (hD : dn ∈ D) (hkv : H dn = some (.dT kvs)) (g1 : Same H H1) (hq : H1 q = none)
    (hpost : (valV kvs k = some nv ∧ H3 = upd H1 q (.lst [])) ∨ (valV kvs k = none ∧ nv = .ref q ∧ H3 = upd (upd H1 q (.lst [])) dn (.dT (kvs ++ [(k, .ref q)])))) :
    ∃ l S1, nv = .ref l ∧ l ∈ S1 ∧ Nrw H3 D S1 (m + 1) ts ∧ (∀ b ∈ S, b ∈ S1) ∧ (∀ b ∈ S1, b ∈ S ∨ H b = none) ∧ (∀ b o, H b = some o → b ≠ dn → H3 b = some o) ∧ (∀ b, H3 b = none → H b = none) := by
  have g2 := g1.trans (same_new hq (.lst []))
  have hqn : H q = none := g1.free hq
  obtain ⟨kvs', n1, n2, n3⟩ := x.at_ dn hD
  rw [hkv] at n1
  cases n1
  rcases hpost with ⟨hv, rfl⟩ | ⟨hn, rfl, rfl⟩
  · obtain ⟨l, hl, rfl⟩ := n3 _ _ hv
    exact ⟨l, S, rfl, hl, x.keep (fun d _ => g2 d) (fun l _ => g2 l) (Tups.of g2) (fun _ _ h => h) (Nat.le_succ _), fun _ h => h, fun _ h => .inl h, fun b o e _ => g2 _ _ e, fun b h => g2.free h⟩
  · have hd2 := g2 _ _ hkv
    have hq2 : (upd H1 q (.lst [])) q = some (.lst []) := upd_same
    have hqd : q ≠ dn := ne_of hq2 hd2 (by intro z; cases z)
    have tu : Tups (upd H1 q (.lst [])) (upd (upd H1 q (.lst [])) dn (.dT (kvs ++ [(k, .ref q)]))) := tups_upd fun xs e => by rw [hd2] at e; cases e
    have tu2 : Tups H (upd (upd H1 q (.lst [])) dn (.dT (kvs ++ [(k, .ref q)]))) := fun b xs e => tu b xs (g2 _ _ e)
    refine ⟨q, q :: S, rfl, List.mem_cons_self, ⟨fun d2 hd2' => ?_, fun l hl => ?_⟩, fun b hb => List.mem_cons_of_mem _ hb, fun b hb => ?_, fun b o e hb => by rw [upd_ne hb]; exact g2 _ _ e, fun b hb => ?_⟩
    · by_cases hdd : d2 = dn
      · subst hdd
        refine ⟨_, upd_same, by rw [List.length_append, List.length_singleton]; omega, fun k2 v2 e => ?_⟩
        rw [valV_snoc (κ := List Key) k k2 _ kvs hn] at e
        by_cases hk : k2 = k
        · rw [if_pos hk] at e
          cases e
          exact ⟨q, List.mem_cons_self, rfl⟩
        · rw [if_neg hk] at e
          obtain ⟨l, hl, e2⟩ := n3 _ _ e
          exact ⟨l, List.mem_cons_of_mem _ hl, e2⟩
      · obtain ⟨kv, h1, h2, h3⟩ := x.at_ d2 hd2'
        refine ⟨kv, by rw [upd_ne hdd]; exact g2 _ _ h1, by omega, fun k2 v2 e => ?_⟩
        obtain ⟨l, hl, e2⟩ := h3 _ _ e
        exact ⟨l, List.mem_cons_of_mem _ hl, e2⟩
    · rcases List.mem_cons.mp hl with rfl | hl
      · exact ⟨[], by rw [upd_ne hqd]; exact hq2, Nat.zero_le _, fun e he => nomatch he⟩
      · obtain ⟨es, e1, e2, e3⟩ := x.ls l hl
        refine ⟨es, ?_, by omega, fun e he => ?_⟩
        · rw [upd_ne (ne_of e1 hkv (by intro z; cases z))]; exact g2 _ _ e1
        · obtain ⟨c, v, j, t, k1, k2, k3, k4⟩ := e3 e he
          exact ⟨c, v, j, t, k1, tu2 _ _ k2, k3.tups tu2, k4⟩
    · rcases List.mem_cons.mp hb with rfl | hb
      · exact .inr hqn
      · exact .inl hb
    · by_cases hbd : b = dn
      · subst hbd
        rw [upd_same] at hb
        cases hb
      · rw [upd_ne hbd] at hb
        exact g2.free hb
/-! ### what is promised -/
def spWkInit (CW : Addr) : Sp := fun vs H Q _ => ∃ (wk dx p : Addr), vs = [.ref wk, .ref p] ∧ H wk = some (.ins CW dx []) ∧ ∀ H', WkAt CW H' wk p → (∀ b o, H b = some o → b ≠ wk → H' b = some o) → (∀ b, H' b = none → H b = none) → Q .non H'
def spAmong : Sp := fun vs H Q _ => ∃ (l : Addr) (v : V) (t : Th) (es : List V) (ts : List Th), vs = [.ref l, v] ∧ H l = some (.lst es) ∧
  (∀ e ∈ es, ∃ c v, ∃ (j : Nat) (t : Th), e = .ref c ∧ H c = some (.tup [v, jv j]) ∧ IsTh H v t ∧ ts[j]? = some t) ∧ (∀ t ∈ ts, t.ok = true ∧ t.depth ≤ 50) ∧ IsTh H v t ∧ t.ok = true ∧ t.depth ≤ 50 ∧ (∀ j : Nat, ts[j]? = some t → Q (jv j) H) ∧ Q .non H
def spShare : Sp := fun vs H Q _ => ∃ (i j : Int), vs = [.int i, .int j] ∧ j < 1000000 ∧ ∀ r : Int, Q (.int r) H
def spWalk (P : Program) (w : World) (C CW : Addr) (n : Nat) : Sp := fun vs H Q _ => ∃ (wk p dn : Addr) (v : V) (sp : Int) (t : Th) (a f d : Addr) (D S : List Addr) (m : Nat) (ts : List Th), vs = [.ref wk, v, .ref dn, .int sp] ∧ WkAt CW H wk p ∧ Pl P w C H p a f d ts ∧ Nrw H D S m ts ∧ dn ∈ D ∧ a ∉ S ∧ f ∉ S ∧
  IsTh H v t ∧ t.ok = true ∧ t.depth ≤ n ∧ t.depth ≤ 50 ∧ m + 2 * t.size ≤ 1000000 ∧ ts.length + t.size ≤ 1000000 ∧
  ∀ (j : Nat) (D' S' : List Addr) (H' : Hp), WkAt CW H' wk p → Pl P w C H' p a f d (ddup ts t.inside) → Nrw H' D' S' (m + 2 * t.size) (ddup ts t.inside) → (ddup ts t.inside)[j]? = some t → Frw a f d wk D D' S S' H H' → Q (jv j) H'
theorem sizeL_take : ∀ (l : List Th) (i : Nat), sizeL (l.take i) ≤ sizeL l
  | [], _ => by simp
  | x :: l, 0 => by simp [sizeL]
  | x :: l, i + 1 => by
    have := sizeL_take l i
    simp only [List.take_succ_cons, sizeL]
    omega
theorem insideL_snoc (ps : List Th) (i : Nat) (t : Th) (h : ps[i]? = some t) : insideL (ps.take (i + 1)) = insideL (ps.take i) ++ t.inside := by
  rw [List.take_add_one, h, insideL_flat, List.flatMap_append, ← insideL_flat]
  simp
theorem sizeL_snoc : ∀ (ps : List Th) (i : Nat) (t : Th), ps[i]? = some t → sizeL (ps.take (i + 1)) = sizeL (ps.take i) + t.size
  | [], _, _, h => by simp at h
  | x :: r, 0, t, h => by simp at h; subst h; simp [sizeL]
  | x :: r, i + 1, t, h => by
    have := sizeL_snoc r i t (by simpa using h)
    simp only [List.take_succ_cons, sizeL] at this ⊢
    omega
theorem ddup_get {acc xs : List Th} {j : Nat} {t : Th} (h : acc[j]? = some t) : (ddup acc xs)[j]? = some t := by
  obtain ⟨m, e⟩ := ddup_prefix xs acc
  rw [e, List.getElem?_append_left (List.getElem?_eq_some_iff.mp h).1]
  exact h
end Sb

set_option Elab.async false
set_option linter.all false
set_option maxRecDepth 100000
namespace L2
open PySem PySem.Spec PyProof.Rows
/-- setdefault with one end for both ways -/
def rSetDefU : V → List V → Hp → VK → Prop := fun x vs H Q => ∃ d b dv kvs k, x = .ref d ∧ vs = [.ref b, dv] ∧ H d = some (.dT kvs) ∧ H b = some (.tup (k.map kV)) ∧ kvs.length < sizeLine ∧
  ∀ v H', ((valV kvs k = some v ∧ H' = H) ∨ (valV kvs k = none ∧ v = dv ∧ H' = upd H d (.dT (kvs ++ [(k, dv)])))) → Q v H'
theorem mt_setdefU {X : Cx} (hu : X.A.units + 1 < cLine) : MtR X "dict.setdefault" rSetDefU := by
  intro pins s σ H x vs v us Q I rx rv h
  obtain ⟨d, b, dv, kvs, k, e1, e2, e3, e4, e5, q⟩ := h
  exact mt_setdef hu pins s σ H x vs v us Q I rx rv ⟨d, b, dv, kvs, k, e1, e2, e3, e4, e5, fun v hv => q v H (.inl ⟨hv, rfl⟩), fun hn => q dv _ (.inr ⟨hn, rfl, rfl⟩)⟩
end L2
namespace K01
open PySem L2 Sb
/-- Python's own names are its own -/
structure BltP (mg : Str → Option Value) : Prop where
  len : mg "len" = none
  list : mg "list" = none
  tuple : mg "tuple" = none
  range : mg "range" = none
  reversed : mg "reversed" = none
  enumerate : mg "enumerate" = none
  zip : mg "zip" = none
  sorted : mg "sorted" = none
/-! ### top_words -/
theorem pat0 (x : V) (vs : List V) : atI (x :: vs) (0 : Int) = some x := atI_nat (xs := x :: vs) (j := 0) rfl
def tkey (t : Th) : List Key := (topWords t).map Sum.inr
theorem tkey_kV (t : Th) : (tkey t).map kV = (topWords t).map V.str := by
  unfold tkey
  rw [List.map_map]
  rfl
def spTop : Sp := fun vs H Q _ => ∃ (v : V) (t : Th), vs = [v] ∧ IsTh H v t ∧ t.size ≤ 1000000 ∧ ∀ (r : Addr) (H' : Hp), Same H H' → H' r = some (.tup ((tkey t).map kV)) → Q (.ref r) H'
section
variable {P : Program} {w : World} {K : PySem.W.Frag} {mg : Str → Option Value} {base : Heap}
theorem scTop : FnScope ["thing"] ["thing"] (defScope sTop) := ⟨rfl, rfl, rfl, by decide +kernel, rfl, by decide +kernel, by decide +kernel⟩
theorem ok_top {f : Addr} {fd : FuncData} (F : Fun K "top_words" "top_words" sTop f fd) (B : BltP mg) : FnOk P w K mg base CX0 1 f fd ["thing"] spTop := by
  refine F.ok scTop (fun vs H Q E h => ?_) (fun cdv A outer s H vs Q E hr h => ?_)
  · obtain ⟨v, t, rfl, _⟩ := h
    rfl
  obtain ⟨v, t, rfl, ht, hsz, q⟩ := h
  obtain ⟨a, wd, vs, ps, rfl, rfl, ha, hps⟩ := ht.inv
  refine ⟨_, pss_one (ps_ret (pe_callTy call_tuple_of rfl B.tuple PyProof.Rows.boot_tuple (pa_cons (pe_op op_cat (pe_lst (pa_cons (pe_ix ix_tup (pv 0) pe_int (fun _ _ => rfl)) pa_nil))
    (pe_comp (own := ["part"]) (fv := []) rfl (S := (⟨by rfl, by decide +kernel, by decide +kernel, by decide +kernel⟩ : CScope (defScope sTop) _)) .nil (pi_tup (pe_slice sl_tup (pv 0) (po_some pe_int) po_none))
      (fun _ _ _ _ _ => pg_name (i := 0) (nd1 _) rfl (Or.inl rfl) (Or.inr rfl)) (fun _ _ _ _ _ => pifs_nil) (fun _ _ _ _ _ => pe_ix (r := rIxT K) ix_tup (pv 0) pe_int (fun _ _ => rfl)))) pa_nil))), ?_⟩
  simp only [Th.size] at hsz
  have lps := len_le_sizeL ps
  have lvs := hps.length
  refine ⟨_, rfl, a, _, _, .str wd, rfl, rfl, SqT.of ha, pat0 _ _, by show 1 ≤ sizeLine; decide, fun l hl => ?_⟩
  have s1 := same_new hl (.lst [.str wd])
  refine ⟨_, rfl, _, rfl, a, _, rfl, SqT.of (s1 _ _ ha), nowhole1 _ _, fun r hr' => ?_⟩
  rw [cut1]
  have s2 := same_new hr' (.tup vs)
  refine ⟨r, rfl, ⟨_, SqT.of upd_same⟩, fun p hp => ?_⟩
  have s3 := same_new hp (.lst [])
  have s13 := (s1.trans s2).trans s3
  refine comp_tup (K := K) (a := r) (xs := vs) (small (by omega)) (fun i ys σ H2 => (∃ x0, σ = [x0]) ∧ Same (upd (upd H l (.lst [.str wd])) r (.tup vs)) H2 ∧ ys = (ps.take i).map fun t => V.str t.word)
    ⟨⟨_, rfl⟩, s3, by simp⟩ (fun i ys σ H2 _ h => SqT.of (h.2.1 _ _ upd_same)) ?_ ?_
  · rintro i x ys σ H2 hi hyl ⟨⟨x0, rfl⟩, g, rfl⟩ g1
    obtain ⟨t, ht', hx⟩ := hps.get hi
    obtain ⟨b, wb, us, qs, rfl, rfl, hb, _⟩ := hx.inv
    refine ⟨_, rfl, b, _, _, .str wb, rfl, rfl, SqT.of (g _ _ (s2 _ _ (s1 _ _ hb))), pat0 _ _, g1, ⟨_, rfl⟩, fun c o e => ?_, ?_⟩
    · rw [upd_ne (ne_of_none e hp)]
      exact g _ _ e
    · rw [List.take_add_one, ht', List.map_append]
      rfl
  · rintro ys σ H2 hyl ⟨_, g, rfl⟩ g1
    have e : ps.take vs.length = ps := by rw [lvs, List.take_length]
    rw [e] at g1
    have gl := g _ _ (s2 _ _ (@upd_same H l (.lst [.str wd])))
    refine ⟨l, p, _, _, rfl, rfl, gl, g1, small (by rw [List.length_map, List.length_singleton]; omega), fun c hc => ?_⟩
    refine ⟨c, _, rfl, .inl ⟨SqL.of upd_same, fun m hm => ?_⟩⟩
    refine q m _ ((((s1.trans s2).trans g).trans (same_new hc _)).trans (same_new hm _)) ?_
    rw [upd_same, tkey_kV]
    simp [topWords, Th.word, Th.parts]
end
/-! ### Places -/
theorem n1 : ¬ (("things" : Str) = "forms") := by decide +kernel
theorem n2 : ¬ (("things" : Str) = "known") := by decide +kernel
theorem n3 : ¬ (("forms" : Str) = "known") := by decide +kernel
theorem flds_mk (a f d : Addr) : putF "known" (.ref d) (putF "forms" (.ref f) (putF "things" (.ref a) [])) = flds a f d := by
  simp only [putF, if_neg n1, if_neg n2, if_neg n3, flds]
theorem fl_things (a f d : Addr) : (flds a f d).lookup ("things" : Str) = some (.ref a) := by rfl
theorem fl_forms (a f d : Addr) : (flds a f d).lookup ("forms" : Str) = some (.ref f) := by rfl
theorem fl_known (a f d : Addr) : (flds a f d).lookup ("known" : Str) = some (.ref d) := by rfl
theorem fl_within (a f d : Addr) : (flds a f d).lookup ("place_within" : Str) = none := by rfl
theorem fl_form (a f d : Addr) : (flds a f d).lookup ("place_by_form" : Str) = none := by rfl
theorem fl_place (a f d : Addr) : (flds a f d).lookup ("place_of" : Str) = none := by rfl
/-- what the walk asks of the class -/
structure TxtP (K : PySem.W.Frag) (mg : Str → Option Value) (C : Addr) : Prop where
  cl : Cls K C
  nT : NoAttr K C "things"
  nF : NoAttr K C "forms"
  nN : NoAttr K C "known"
  mgC : mg "Places" = some (.ref C)
section
variable {P : Program} {w : World} {K : PySem.W.Frag} {mg : Str → Option Value} {base : Heap}
theorem scPlInit : FnScope ["self"] ["self"] (defScope sPlInit) := ⟨rfl, rfl, rfl, by decide +kernel, rfl, by decide +kernel, by decide +kernel⟩
theorem ok_plInit {f C : Addr} {fd : FuncData} (F : Fun K "__init__" "Places.__init__" sPlInit f fd) (T : TxtP K mg C) : FnOk P w K mg base CX0 1 f fd ["self"] (spPlInit P w C) := by
  refine F.ok scPlInit (fun vs H Q E h => ?_) (fun cdv A outer s H vs Q E hr h => ?_)
  · obtain ⟨p, dx, rfl, _⟩ := h
    rfl
  obtain ⟨p, dx, rfl, hp, q⟩ := h
  refine ⟨_, pss_cons (ps_fld (pv 0) (pe_lst pa_nil) rfl) (pss_cons (ps_fld (pv 0) (pe_lst pa_nil) rfl) (pss_one (ps_fld (pv 0) pe_dnewD rfl))), ?_⟩
  refine ⟨Nat.zero_le _, fun a ha => ?_⟩
  have npa : p ≠ a := ne_of_none hp ha
  refine ⟨_, rfl, p, C, dx, [], rfl, (by rw [upd_ne npa]; exact hp), T.cl, T.nT, by show 0 < 1000; decide, Nat.zero_le _, fun f hf => ?_⟩
  have npf : p ≠ f := ne_of_none upd_same hf
  have naf : a ≠ f := ne_of_none (o := .lst []) (by rw [upd_ne (Ne.symm npa), upd_same]) hf
  refine ⟨_, rfl, p, C, dx, _, rfl, (by rw [upd_ne npf, upd_same]), T.cl, T.nF, by show 1 < 1000; decide, fun d hd => ?_⟩
  have npd : p ≠ d := ne_of_none upd_same hd
  have nfd : f ≠ d := ne_of_none (o := .lst []) (by rw [upd_ne (Ne.symm npf), upd_same]) hd
  have nad : a ≠ d := ne_of_none (o := .lst []) (by rw [upd_ne (Ne.symm npa), upd_ne naf, upd_ne (Ne.symm npa), upd_same]) hd
  refine ⟨_, rfl, p, C, dx, _, rfl, (by rw [upd_ne npd, upd_same]), T.cl, T.nN, by show 2 < 1000; decide, ?_⟩
  refine q a f d _ ⟨⟨dx, ?_⟩, ⟨[], ?_, .nil⟩, ⟨[], ?_, .nil⟩, ⟨[], ⟨?_, fun p hp => nomatch hp⟩, Nat.le_refl _, fun j t e => ?_, fun k v e => ?_⟩, naf, List.nodup_nil, closed_nil, fun t ht => by simp at ht⟩ (fun b o e hb => ?_) ha ?_ ?_
  · rw [upd_same, flds_mk]
  · rw [upd_ne (Ne.symm npa), upd_ne nad, upd_ne (Ne.symm npa), upd_ne naf, upd_ne (Ne.symm npa), upd_same]
  · rw [upd_ne (Ne.symm npf), upd_ne nfd, upd_ne (Ne.symm npf), upd_same]
  · rw [upd_ne (Ne.symm npd), upd_same]; rfl
  · simp at e
  · simp [kval] at e
  · have hba : b ≠ a := ne_of_none e ha
    have hbf : b ≠ f := fun z => by
      subst z
      rw [upd_ne hb, upd_ne hba, e] at hf
      cases hf
    have hbd : b ≠ d := fun z => by
      subst z
      rw [upd_ne hb, upd_ne hbf, upd_ne hb, upd_ne hba, e] at hd
      cases hd
    rw [upd_ne hb, upd_ne hbd, upd_ne hb, upd_ne hbf, upd_ne hb, upd_ne hba]
    exact e
  · rw [upd_ne (Ne.symm npf), upd_ne (Ne.symm naf)] at hf
    exact hf
  · rw [upd_ne (Ne.symm npd), upd_ne (Ne.symm nfd), upd_ne (Ne.symm npd), upd_ne (Ne.symm nad)] at hd
    exact hd
/-! ### place_by_form -/
theorem scByForm : FnScope ["self", "thing", "form"] ["self", "thing", "form"] (defScope sByForm) := ⟨rfl, rfl, rfl, by decide +kernel, rfl, by decide +kernel, by decide +kernel⟩
theorem kn_in {P : Program} {w : World} {C : Addr} {H : Hp} {p a f d : Addr} {ts : List Th} {kvs : List KE} {t : Th} (x : Pl P w C H p a f d ts) (ht : ∀ q ∈ t.parts, q ∈ ts) (h3 : ∀ (j : Nat) t, ts[j]? = some t → kval kvs (fkey (fm ts t)) = some (jv j)) (h4 : ∀ k v, kval kvs k = some v → ∃ t ∈ ts, k = fkey (fm ts t)) :
    (kval kvs (fkey (fm ts t))).isSome = decide (t ∈ ts) := by
  by_cases h : t ∈ ts
  · rw [decide_eq_true h, h3 _ t (idx_get h)]; rfl
  · rw [decide_eq_false h]
    cases e : kval kvs (fkey (fm ts t)) with
    | none => rfl
    | some v =>
      exfalso
      obtain ⟨s, hs, es⟩ := h4 _ _ e
      exact h (fm_inj ht (parts_in x.cl hs) (fkey_inj es) ▸ hs)
theorem pl_add {P : Program} {w : World} {C : Addr} {H : Hp} {p a f d c : Addr} {ts : List Th} {kvs : List KE} {us ws : List V} {v : V} {t : Th} (x : Pl P w C H p a f d ts) (hD : DH P w H d kvs) (hl : kvs.length ≤ ts.length) (h3 : ∀ (j : Nat) t, ts[j]? = some t → kval kvs (fkey (fm ts t)) = some (jv j)) (h4 : ∀ k v, kval kvs k = some v → ∃ t ∈ ts, k = fkey (fm ts t))
    (hu : H a = some (.lst us)) (au : AreTh H us ts) (hw : H f = some (.lst ws)) (aw : Paired (FmAt H) ws (ts.map (fm ts))) (hv : IsTh H v t) (ok : t.ok = true) (dp : t.depth ≤ 50) (ht : ∀ q ∈ t.parts, q ∈ ts) (hc : FmAt H (.ref c) (fm ts t)) (new : ¬ t ∈ ts) :
    Pl P w C (upd (upd (upd H d (dkd P w d (kput kvs (fkey (fm ts t)) c (jv ts.length)))) a (.lst (us ++ [v]))) f (.lst (ws ++ [.ref c]))) p a f d (ts ++ [t]) := by
  obtain ⟨dx, o1⟩ := x.ob
  have da : d ≠ a := ne_of hD.at_ hu (by intro z; cases z)
  have df : d ≠ f := ne_of hD.at_ hw (by intro z; cases z)
  have pd : p ≠ d := ne_of o1 hD.at_ (by intro z; cases z)
  have pa : p ≠ a := ne_of o1 hu (by intro z; cases z)
  have pf : p ≠ f := ne_of o1 hw (by intro z; cases z)
  have tu : Tups H (upd (upd (upd H d (dkd P w d (kput kvs (fkey (fm ts t)) c (jv ts.length)))) a (.lst (us ++ [v]))) f (.lst (ws ++ [.ref c]))) := fun b xs e => by
    rw [upd_ne (ne_of e hw (by intro z; cases z)), upd_ne (ne_of e hu (by intro z; cases z)), upd_ne (ne_of e hD.at_ (by intro z; cases z))]
    exact e
  have hn : kval kvs (fkey (fm ts t)) = none := by
    have := kn_in x ht h3 h4
    rw [decide_eq_false new] at this
    cases e : kval kvs (fkey (fm ts t)) with
    | none => rfl
    | some u => rw [e] at this; cases this
  have kc : KeyV H c (fkey (fm ts t)) := hc.key (by cases t; simp only [Th.ok, Bool.and_eq_true] at ok; exact ok.1)
  have old : ∀ s ∈ ts, fm (ts ++ [t]) s = fm ts s := fun s hs => fm_app (parts_in x.cl hs)
  have new' : fm (ts ++ [t]) t = fm ts t := fm_app ht
  refine ⟨⟨dx, ?_⟩, ⟨_, ?_, (au.append (.one hv)).tups tu⟩, ⟨_, upd_same, ?_⟩, ⟨kput kvs (fkey (fm ts t)) c (jv ts.length), ⟨?_, keysAt_tups tu (hD.keys.put kc)⟩, ?_, fun j s e => ?_, fun k y e => ?_⟩, x.af, ?_, ?_, ?_⟩
  · rw [upd_ne pf, upd_ne pa, upd_ne pd]; exact o1
  · rw [upd_ne x.af, upd_same]
  · have e1 : (ts ++ [t]).map (fm (ts ++ [t])) = ts.map (fm ts) ++ [fm ts t] := by
      rw [List.map_append, List.map_congr_left old, List.map_cons, List.map_nil, new']
    rw [e1]
    exact paired_app (L2.Paired.mapP aw fun _ _ h => h.tups tu) (.cons (hc.tups tu) .nil)
  · rw [upd_ne df, upd_ne da, upd_same]
  · have := kput_len kvs (fkey (fm ts t)) c (jv ts.length)
    rw [List.length_append, List.length_singleton]
    omega
  · rw [kval_put]
    rcases Nat.lt_or_ge j ts.length with hj | hj
    · rw [List.getElem?_append_left hj] at e
      have hs := List.mem_of_getElem? e
      rw [old s hs, if_neg (fun z => new (fm_inj (parts_in x.cl hs) ht (fkey_inj z) ▸ hs))]
      exact h3 j s e
    · rw [List.getElem?_append_right hj] at e
      have h0 : j - ts.length = 0 := by
        have := (List.getElem?_eq_some_iff.mp e).1
        simp at this
        omega
      rw [h0] at e
      simp at e
      subst e
      have : j = ts.length := by omega
      subst this
      rw [new', if_pos rfl]
  · rw [kval_put] at e
    by_cases hk : k = fkey (fm ts t)
    · exact ⟨t, by simp, by rw [new']; exact hk⟩
    · rw [if_neg hk] at e
      obtain ⟨s, hs, es⟩ := h4 _ _ e
      exact ⟨s, List.mem_append_left _ hs, by rw [old s hs]; exact es⟩
  · rw [List.nodup_append]
    refine ⟨x.nd, by simp, fun s hs u hu => ?_⟩
    simp at hu
    subst hu
    exact fun z => new (z ▸ hs)
  · intro s hs r hr
    rcases List.mem_append.mp hs with hs | hs
    · exact List.mem_append_left _ (x.cl s hs r hr)
    · simp at hs
      subst hs
      cases s with
      | mk w0 ps =>
        simp only [Th.inside, List.mem_append, List.mem_singleton] at hr
        rcases hr with hr | hr
        · rw [insideL_flat, List.mem_flatMap] at hr
          obtain ⟨q0, hq, hr⟩ := hr
          exact List.mem_append_left _ (x.cl q0 (ht q0 hq) r hr)
        · subst hr; simp
  · intro s hs
    rcases List.mem_append.mp hs with hs | hs
    · exact x.ok s hs
    · simp at hs
      subst hs
      exact ⟨ok, dp⟩
set_option maxHeartbeats 1000000 in
theorem ok_byForm {f0 C : Addr} {fd : FuncData} (F : Fun K "place_by_form" "Places.place_by_form" sByForm f0 fd) (T : TxtP K mg C) (B : BltP mg) : FnOk P w K mg base CX0 1 f0 fd ["self", "thing", "form"] (spByForm P w C) := by
  refine F.ok scByForm (fun vs H Q E h => ?_) (fun cdv A outer s H vs Q E hr h => ?_)
  · obtain ⟨p, c, v, t, a, f, d, ts, rfl, _⟩ := h
    rfl
  obtain ⟨p, c, v, t, a, f, d, ts, rfl, x, hv, ok, dp, ht, hc, hl, q⟩ := h
  have hu := hr.units
  refine ⟨_, pss_cons (ps_if (pt_cmpR (op_notInKD hu) (pv 2) (pe_fld (pv 0) rfl) rfl)
      (pss_cons (ps_asg (pe_callB call_len_seq rfl B.len PySem.boot_len (pa_cons (pe_fld (pv 0) rfl) pa_nil)) (pg_sub (pe_fld (pv 0) rfl) (pv 2) (set_KD hu)))
      (pss_cons (ps_expr (pe_bm PySem.F.plainAttrs_list PySem.F.slot_list_append PySem.F.type_list_append mt_append (pe_fld (pv 0) rfl) (pa_cons (pv 1) pa_nil)))
      (pss_one (ps_expr (pe_bm PySem.F.plainAttrs_list PySem.F.slot_list_append PySem.F.type_list_append mt_append (pe_fld (pv 0) rfl) (pa_cons (pv 2) pa_nil)))))) pss_nil)
    (pss_one (ps_ret (pe_ix (ix_KD hu) (pe_fld (pv 0) rfl) (pv 2) (fun _ _ => rfl)))), ?_⟩
  obtain ⟨dx, o1⟩ := x.ob
  obtain ⟨us, u1, u2⟩ := x.th
  obtain ⟨ws, w1, w2⟩ := x.fo
  obtain ⟨kvs, D, kl, k3, k4⟩ := x.kn
  have kc : KeyV H c (fkey (fm ts t)) := hc.key (by cases t; simp only [Th.ok, Bool.and_eq_true] at ok; exact ok.1)
  have ul := u2.length
  have wl : ws.length = ts.length := by rw [Paired.length w2, List.length_map]
  refine ⟨_, rfl, _, rfl, p, C, dx, _, _, rfl, o1, T.cl, T.nN, fl_known _ _ _, c, d, fkey (fm ts t), kvs, rfl, rfl, D, kc, _, rfl, ?_⟩
  rw [kn_in x ht k3 k4]
  by_cases hin : t ∈ ts
  · rw [decide_eq_true hin]
    refine iteF ?_
    have e := q (ts.idxOf t) H (by rw [if_pos hin]; exact x) (by rw [if_pos hin]; exact idx_get hin) Fr3.refl
    exact ⟨_, rfl, p, C, dx, _, _, rfl, o1, T.cl, T.nN, fl_known _ _ _, _, rfl, d, c, fkey (fm ts t), kvs, _, rfl, rfl, D, kc, k3 _ t (idx_get hin), e⟩
  · rw [decide_eq_false hin]
    refine iteT ?_
    have fin := pl_add (c := c) x D kl k3 k4 u1 u2 w1 w2 hv ok dp ht hc hin
    have da : d ≠ a := ne_of D.at_ u1 (by intro z; cases z)
    have df : d ≠ f := ne_of D.at_ w1 (by intro z; cases z)
    have pd : p ≠ d := ne_of o1 D.at_ (by intro z; cases z)
    have pa : p ≠ a := ne_of o1 u1 (by intro z; cases z)
    have pf : p ≠ f := ne_of o1 w1 (by intro z; cases z)
    have e1 : (us.length : Int) = ((ts.length : Nat) : Int) := by rw [ul]
    refine ⟨_, rfl, p, C, dx, _, _, rfl, o1, T.cl, T.nT, fl_things _ _ _, a, us, rfl, .inl (SqL.of u1), _, rfl, p, C, dx, _, _, rfl, o1, T.cl, T.nN, fl_known _ _ _, _, rfl, d, c, fkey (fm ts t), kvs, rfl, rfl, D, kc, by rw [sizeLine_eq]; omega, ?_⟩
    have u1' : (upd H d (dkd P w d (kput kvs (fkey (fm ts t)) c (.int us.length)))) a = some (.lst us) := by rw [upd_ne (Ne.symm da)]; exact u1
    have o1' : (upd H d (dkd P w d (kput kvs (fkey (fm ts t)) c (.int us.length)))) p = some (.ins C dx (flds a f d)) := by rw [upd_ne pd]; exact o1
    refine ⟨_, rfl, p, C, dx, _, _, rfl, o1', T.cl, T.nT, fl_things _ _ _, .inl ⟨rfl, _, SqL.of u1'⟩, _, rfl, a, us, _, rfl, rfl, u1', by rw [sizeLine_eq]; omega, ?_⟩
    have o2 : (upd (upd H d (dkd P w d (kput kvs (fkey (fm ts t)) c (.int us.length)))) a (.lst (us ++ [v]))) p = some (.ins C dx (flds a f d)) := by rw [upd_ne pa]; exact o1'
    have w1' : (upd (upd H d (dkd P w d (kput kvs (fkey (fm ts t)) c (.int us.length)))) a (.lst (us ++ [v]))) f = some (.lst ws) := by rw [upd_ne (Ne.symm x.af), upd_ne (Ne.symm df)]; exact w1
    refine ⟨_, rfl, p, C, dx, _, _, rfl, o2, T.cl, T.nF, fl_forms _ _ _, .inl ⟨rfl, _, SqL.of w1'⟩, _, rfl, f, ws, _, rfl, rfl, w1', by rw [sizeLine_eq]; omega, ?_⟩
    rw [e1]
    have fr : Fr3 a f d H (upd (upd (upd H d (dkd P w d (kput kvs (fkey (fm ts t)) c (jv ts.length)))) a (.lst (us ++ [v]))) f (.lst (ws ++ [.ref c]))) := ⟨fun b o e h1 h2 h3 => by rw [upd_ne h2, upd_ne h1, upd_ne h3]; exact e, fun b hb => by
        by_cases hbf : b = f
        · subst hbf; rw [upd_same] at hb; cases hb
        · rw [upd_ne hbf] at hb
          by_cases hba : b = a
          · subst hba; rw [upd_same] at hb; cases hb
          · rw [upd_ne hba] at hb
            by_cases hbd : b = d
            · subst hbd; rw [upd_same] at hb; cases hb
            · rw [upd_ne hbd] at hb; exact hb⟩
    have tn : fm (ts ++ [t]) t = fm ts t := fm_app ht
    have hgt : (ts ++ [t])[ts.length]? = some t := by simp
    have fin2 : ∀ H9, Pl P w C H9 p a f d (ts ++ [t]) → Fr3 a f d H H9 → ∃ dx2 kvs2, H9 p = some (.ins C dx2 (flds a f d)) ∧ DH P w H9 d kvs2 ∧ KeyV H9 c (fkey (fm ts t)) ∧ kval kvs2 (fkey (fm ts t)) = some (jv ts.length) := fun H9 y fr => by
      obtain ⟨dx2, o3⟩ := y.ob
      obtain ⟨kvs2, D2, _, k32, _⟩ := y.kn
      have vv := k32 ts.length t hgt
      rw [tn] at vv
      exact ⟨dx2, kvs2, o3, D2, (hc.tups (fr.tups x)).key (by cases t; simp only [Th.ok, Bool.and_eq_true] at ok; exact ok.1), vv⟩
    obtain ⟨dx2, kvs2, o3, D2, kc2, vv⟩ := fin2 _ fin fr
    exact ⟨_, rfl, p, C, dx2, _, _, rfl, o3, T.cl, T.nN, fl_known _ _ _, _, rfl, d, c, fkey (fm ts t), kvs2, _, rfl, rfl, D2, kc2, vv, q ts.length _ (by rw [if_neg hin]; exact fin) (by rw [if_neg hin]; exact hgt) fr⟩
end
end K01

set_option Elab.async false
set_option linter.all false
set_option maxRecDepth 100000
namespace K01
open PySem L2 Sb
/-- what the walk asks of the class, and the numbers that the module holds -/
structure TxtW (K : PySem.W.Frag) (mg : Str → Option Value) (CW : Addr) : Prop where
  cl : Cls K CW
  nP : NoAttr K CW "places"
  nS : NoAttr K CW "steps"
  mgC : mg "Walk" = some (.ref CW)
  few : ∃ u, mg "FEW_PARTS" = some u ∧ RelV (.int 4) u
  walks : ∃ u, mg "WALKS_ANEW" = some u ∧ RelV (.int 1024) u
  steps : ∃ u, mg "STEPS_ANEW" = some u ∧ RelV (.int 40000) u
theorem wf_places (p : Addr) (n : Int) : (wfl p n).lookup ("places" : Str) = some (.ref p) := by rfl
theorem wf_steps (p : Addr) (n : Int) : (wfl p n).lookup ("steps" : Str) = some (.int n) := by rfl
theorem wf_within (p : Addr) (n : Int) : (wfl p n).lookup ("place_within" : Str) = none := by rfl
section
variable {P : Program} {w : World} {K : PySem.W.Frag} {mg : Str → Option Value} {base : Heap}
/-! ### share_of -/
theorem scShare : FnScope ["spare", "inner"] ["spare", "inner"] (defScope sShare) := ⟨rfl, rfl, rfl, by decide +kernel, rfl, by decide +kernel, by decide +kernel⟩
theorem ok_share {f0 : Addr} {fd : FuncData} (F : Fun K "share_of" "share_of" sShare f0 fd) : FnOk P w K mg base CX0 1 f0 fd ["spare", "inner"] spShare := by
  refine F.ok scShare (fun vs H Q E h => ?_) (fun cdv A outer s H vs Q E hr h => ?_)
  · obtain ⟨i, j, rfl, _⟩ := h
    rfl
  obtain ⟨i, j, rfl, hj, q⟩ := h
  refine ⟨_, pss_cons (ps_if (PW.pt (pw_or (pt_cmpR op_lt (pv 1) pe_int (nomark _)) (pw_or1 (pt_cmpR op_lt (pe_op op_fdiv (pv 0) (pv 1)) (pe_op op_sub (pv 1) pe_int) (nomark _))))) (pss_one (ps_ret pe_int)) pss_nil)
    (pss_one (ps_ret (pe_op op_fdiv (pv 0) (pv 1)))), ?_⟩
  refine ⟨_, rfl, _, _, rfl, rfl, _, rfl, ?_⟩
  by_cases h2 : j < 2
  · rw [decide_eq_true h2]
    exact iteT (iteT (q 0))
  · rw [decide_eq_false h2]
    have hd : CDiv i j := ⟨by omega, by omega⟩
    refine iteF ⟨_, rfl, _, rfl, _, _, rfl, rfl, hd, _, rfl, _, _, rfl, rfl, _, _, rfl, rfl, _, rfl, ?_⟩
    refine ite2 (fun _ => q 0) (fun _ => ?_)
    exact ⟨_, rfl, _, rfl, _, _, rfl, rfl, hd, q _⟩
/-! ### place_among -/
theorem scAmong : FnScope ["met", "thing", "twin", "place"] ["met", "thing"] (defScope sAmong) := ⟨rfl, rfl, rfl, by decide +kernel, rfl, by decide +kernel, by decide +kernel⟩
theorem ok_among {f0 : Addr} {fd : FuncData} (F : Fun K "place_among" "place_among" sAmong f0 fd) (B : BltP mg) : FnOk P w K mg base CX0 1 f0 fd ["met", "thing"] spAmong := by
  refine F.ok scAmong (fun vs H Q E h => ?_) (fun cdv A outer s H vs Q E hr h => ?_)
  · obtain ⟨l, v, t, es, ts, rfl, _⟩ := h
    rfl
  obtain ⟨l, v, t, es, ts, rfl, hl, hes, hts, ht, hok, hdp, q1, q2⟩ := h
  have hu := hr.units
  have nd := scAmong.nd
  refine ⟨_, pss_cons (ps_for PassesOwn.never rfl (pi_revL rfl B.reversed (pa_cons (pv 0) pa_nil)) (pg_tup rfl (pgs_cons (pg_name (i := 2) nd rfl (Or.inl rfl)) (pgs_cons (pg_name (i := 3) nd rfl (Or.inl rfl)) pgs_nil)))
      (pss_one (ps_if (pt_cmpR (op_eqD hu) (pv 2) (pv 1) (nomark _)) (pss_one (ps_ret (pv 3))) pss_nil)))
    (pss_one (ps_ret pe_non)), ?_⟩
  refine ⟨_, rfl, l, es, rfl, SqL.of hl, for_revL (K := K) (a := l) (xs := es) (fun i σ H4 => H4 = H ∧ ∃ x2 x3, σ = [some (.ref l), some v, x2, x3])
    ⟨rfl, _, _, rfl⟩ (fun i σ H4 _ ⟨e, _⟩ => by rw [e]; exact SqL.of hl) ?_ ?_⟩
  · rintro i y σ H4 hi ⟨rfl, x2, x3, rfl⟩
    obtain ⟨c, v2, j, t2, rfl, hc, hv2, ej⟩ := hes y (List.mem_reverse.mp (List.mem_of_getElem? hi))
    have okj := hts _ (List.mem_of_getElem? ej)
    refine ⟨c, _, rfl, SqT.of hc, rfl, v2, _, rfl, jv j, _, rfl, rfl, _, rfl, _, rfl, _, _, hv2.dt, ht.dt, lay_of _ okj.1, lay_of _ hok, ?_, _, rfl, ?_⟩
    · rw [depth_toD, depth_toD]
      have := okj.2
      omega
    rw [eqv_dec]
    by_cases hjt : t2 = t
    · subst hjt
      rw [decide_eq_true rfl]
      exact iteT ⟨_, rfl, q1 j ej⟩
    · rw [decide_eq_false hjt]
      exact iteF ⟨rfl, _, _, rfl⟩
  · rintro σ H4 ⟨rfl, _⟩
    exact q2
/-! ### Walk -/
theorem scWkInit : FnScope ["self", "places"] ["self", "places"] (defScope sWkInit) := ⟨rfl, rfl, rfl, by decide +kernel, rfl, by decide +kernel, by decide +kernel⟩
theorem ok_wkInit {f0 CW : Addr} {fd : FuncData} (F : Fun K "__init__" "Walk.__init__" sWkInit f0 fd) (T : TxtW K mg CW) : FnOk P w K mg base CX0 1 f0 fd ["self", "places"] (spWkInit CW) := by
  refine F.ok scWkInit (fun vs H Q E h => ?_) (fun cdv A outer s H vs Q E hr h => ?_)
  · obtain ⟨wk, dx, p, rfl, _⟩ := h
    rfl
  obtain ⟨wk, dx, p, rfl, hw, q⟩ := h
  refine ⟨_, pss_cons (ps_fld (pv 0) (pv 1) rfl) (pss_one (ps_fld (pv 0) pe_int rfl)), ?_⟩
  refine ⟨_, rfl, _, rfl, wk, CW, dx, [], rfl, hw, T.cl, T.nP, by show 0 < 1000; decide, ?_⟩
  refine ⟨_, rfl, wk, CW, dx, _, rfl, upd_same, T.cl, T.nS, by show 1 < 1000; decide, ?_⟩
  refine q _ ⟨dx, 0, by rw [upd_same, wfl_mk]⟩ (fun b o e hb => by rw [upd_ne hb, upd_ne hb]; exact e) fun b hb => ?_
  by_cases h : b = wk
  · subst h; rw [upd_same] at hb; cases hb
  · rw [upd_ne h, upd_ne h] at hb; exact hb
end
end K01

set_option Elab.async false
set_option linter.all false
set_option maxRecDepth 100000
namespace K01
open PySem L2 Sb
section
variable {P : Program} {w : World} {K : PySem.W.Frag} {mg : Str → Option Value} {base : Heap}
theorem scPlaceIn : FnScope ["self", "thing", "near", "spare", "met", "place", "inner", "share", "scope", "parts", "part"] ["self", "thing", "near", "spare"] (defScope sPlaceIn) := ⟨rfl, rfl, rfl, by decide +kernel, rfl, by decide +kernel, by decide +kernel⟩
set_option maxHeartbeats 4000000 in
theorem ok_within {n : Nat} {f0 fT fA fS fB C CW : Addr} {fd fdT fdA fdS fdB : FuncData} (F : Fun K "place_within" "Walk.place_within" sPlaceIn f0 fd) (T : TxtP K mg C) (TW : TxtW K mg CW) (B : BltP mg) (mP : Meth K CW "place_within" f0) (bP : Binds K fd ["self", "thing", "near", "spare"] [])
    (G : FnOk P w K mg base CX0 (n + 1) f0 fd ["self", "thing", "near", "spare"] (spWalk P w C CW n)) (GT : FnOk P w K mg base CX0 1 fT fdT ["thing"] spTop) (kT : PySem.W.keepIn K (.ref fT) = true) (bT : Binds K fdT ["thing"] []) (mT : mg "top_words" = some (.ref fT))
    (GA : FnOk P w K mg base CX0 1 fA fdA ["met", "thing"] spAmong) (kA : PySem.W.keepIn K (.ref fA) = true) (bA : Binds K fdA ["met", "thing"] []) (mA : mg "place_among" = some (.ref fA))
    (GS : FnOk P w K mg base CX0 1 fS fdS ["spare", "inner"] spShare) (kS : PySem.W.keepIn K (.ref fS) = true) (bS : Binds K fdS ["spare", "inner"] []) (mS : mg "share_of" = some (.ref fS))
    (mB : Meth K C "place_by_form" fB) (GB : FnOk P w K mg base CX0 1 fB fdB ["self", "thing", "form"] (spByForm P w C)) (bB : Binds K fdB ["self", "thing", "form"] []) :
    FnOk P w K mg base CX0 (n + 2) f0 fd ["self", "thing", "near", "spare"] (spWalk P w C CW (n + 1)) := by
  refine F.ok scPlaceIn (fun vs H Q E h => ?_) (fun cdv A outer s H vs Q E hr h => ?_)
  · obtain ⟨wk, p, dn, v, sp, t, a, f, d, D, S, m, ts, rfl, _⟩ := h
    rfl
  obtain ⟨wk, p, dn, v, sp, t, a, f, d, D, S, m, ts, rfl, W, x, xn, hD, aS, fS, ht, hok, hdn, hdp, hm, hts, q⟩ := h
  have hu := hr.units
  have hr1 : Room 1 _ := hr.mono (by omega)
  have nd := scPlaceIn.nd
  obtain ⟨u1, mF, rF⟩ := TW.few
  obtain ⟨u3, mN, rN⟩ := TW.steps
  refine ⟨_, pss_cons (ps_fld (pv 0) (pe_op op_add (pe_fld (pv 0) rfl) pe_int) rfl)
    (pss_cons (ps_set (i := 4) nd rfl (Or.inl rfl) (pe_bm PySem.F.plainAttrs_dict PySem.F.slot_dict_setdefault PySem.F.type_dict_setdefault (mt_setdefU (hu_of hr)) (pv 2) (pa_cons (pe_call GT hr1 rfl mT kT bT .nil pass0 (pa_cons (pv 1) pa_nil)) (pa_cons (pe_lst pa_nil) pa_nil))))
    (pss_cons (ps_set (i := 5) nd rfl (Or.inl rfl) (pe_call GA hr1 rfl mA kA bA .nil pass0 (pa_cons (pv 4) (pa_cons (pv 1) pa_nil))))
    (pss_cons (ps_if (pt_cmp (pc_notN (pv 5))) (pss_one (ps_ret (pv 5))) pss_nil)
    (pss_cons (ps_set (i := 6) nd rfl (Or.inl rfl) (pe_callB call_len_seq rfl B.len PySem.boot_len (pa_cons (pe_comp (own := ["part"]) (fv := []) rfl (S := (⟨by rfl, by decide +kernel, by decide +kernel, by decide +kernel⟩ : CScope (defScope sPlaceIn) _)) .nil (pi_tup (pe_slice sl_tup (pv 1) (po_some pe_int) po_none))
      (fun _ _ _ _ _ => pg_name (i := 0) (nd1 _) rfl (Or.inl rfl) (Or.inr rfl)) (fun _ _ _ _ _ => pifs_one (pt_cmpR op_gt (pe_callB (r := fun xs H Q => ∃ p ys, xs = [.ref p] ∧ (SqL K H p ys ∨ SqT K H p ys) ∧ Q (.int ys.length) H) call_len_seq rfl B.len PySem.boot_len (pa_cons (pv 0) pa_nil)) pe_int (nomark _))) (fun _ _ _ _ _ => pv 0)) pa_nil)))
    (pss_cons (ps_set (i := 7) nd rfl (Or.inl rfl) (pe_ifExp (pt_cmpR op_lt (pe_fld (pv 0) rfl) (pe_glob rfl mN rN) (nomark _)) (pe_call GS hr1 rfl mS kS bS .nil pass0 (pa_cons (pv 3) (pa_cons (pv 6) pa_nil))) pe_int))
    (pss_cons (ps_set (i := 8) nd rfl (Or.inl rfl) (pv 2))
    (pss_cons (ps_set (i := 9) nd rfl (Or.inl rfl) (pe_lst pa_nil))
    (pss_cons (ps_for PassesOwn.never rfl (pi_tup (pe_slice sl_tup (pv 1) (po_some pe_int) po_none)) (pg_name (i := 10) nd rfl (Or.inl rfl))
      (pss_cons (ps_if (PW.pt (pw_and (pt_cmpR op_gt (pv 7) pe_int (nomark _)) (pw_and1 (PW.pt (pw_or (pt_cmpR op_le (pv 6) (pe_glob rfl mF rF) (nomark _)) (pw_or1 (pt_cmpR op_lt (pe_fld (pv 0) rfl) (pe_glob rfl mN rN) (nomark _))))))))
        (pss_one (ps_set (i := 8) nd rfl (Or.inl rfl) pe_dnewT))
        (pss_one (ps_if (PW.pt (pw_and (pt_truth (pv 9) (fun _ => rfl)) (pw_and1 (pt_cmpR (op_eqD hu) (pv 10) (pe_ix ix_tup (pv 1) (pe_callB call_len_seq rfl B.len PySem.boot_len (pa_cons (pv 9) pa_nil)) (fun _ _ => rfl)) (nomark _)))))
          (pss_cons (ps_expr (pe_bm PySem.F.plainAttrs_list PySem.F.slot_list_append PySem.F.type_list_append mt_append (pv 9) (pa_cons (pe_ix ix_list (pv 9) (pe_un un_neg pe_int) (fun _ _ => rfl)) pa_nil)))
          (pss_one ps_continue)) pss_nil)))
      (pss_one (ps_expr (pe_bm PySem.F.plainAttrs_list PySem.F.slot_list_append PySem.F.type_list_append mt_append (pv 9) (pa_cons (pe_meth (pv 0) TW.cl mP G hr bP .nil pass0 (pa_cons (pv 10) (pa_cons (pv 8) (pa_cons (pe_orVar (pv 7) (pv 3)) pa_nil)))) pa_nil))))))
    (pss_cons (ps_set (i := 5) nd rfl (Or.inl rfl) (pe_meth (pe_fld (pv 0) rfl) T.cl mB GB hr1 bB .nil pass0 (pa_cons (pv 1) (pa_cons (pe_tup (pa_cons (pe_ix ix_tup (pv 1) pe_int (fun _ _ => rfl)) (pa_cons (pe_callTy call_tuple_of rfl B.tuple PyProof.Rows.boot_tuple (pa_cons (pv 9) pa_nil)) pa_nil))) pa_nil))))
    (pss_cons (ps_expr (pe_bm PySem.F.plainAttrs_list PySem.F.slot_list_append PySem.F.type_list_append mt_append (pv 4) (pa_cons (pe_tup (pa_cons (pv 1) (pa_cons (pv 5) pa_nil))) pa_nil)))
    (pss_one (ps_ret (pv 5))))))))))))), ?_⟩
  -- self.steps = self.steps + 1
  obtain ⟨dxw, k0, ow⟩ := W
  refine ⟨_, rfl, wk, CW, dxw, _, _, rfl, ow, TW.cl, TW.nS, wf_steps _ _, _, _, rfl, rfl, _, rfl, wk, CW, dxw, _, rfl, ow, TW.cl, TW.nS, (by show 2 < 1000; decide), ?_⟩
  rw [wfl_put]
  obtain ⟨dxp, op⟩ := x.ob
  obtain ⟨usx, u1, _⟩ := x.th
  obtain ⟨wsx, w1, _⟩ := x.fo
  obtain ⟨kvx, D1, _⟩ := x.kn
  generalize hH0 : upd H wk (.ins CW dxw (wfl p (k0 + 1))) = H0
  have kp0 : ∀ b o, H b = some o → b ≠ wk → H0 b = some o := fun b o e h => by rw [← hH0, upd_ne h]; exact e
  have ow0 : H0 wk = some (.ins CW dxw (wfl p (k0 + 1))) := by rw [← hH0, upd_same]
  have th0 : ∀ b, H0 b = none → H b = none := fun b hb => by
    by_cases h : b = wk
    · subst h; rw [ow0] at hb; cases hb
    · rw [← hH0, upd_ne h] at hb; exact hb
  clear hH0
  have t0 : Tups H H0 := fun b xs e => kp0 b _ e (ne_of e ow (by intro z; cases z))
  have x0 : Pl P w C H0 p a f d ts := x.keep (fun o e => kp0 _ _ e (ne_of op ow wk_ne)) (fun o e => kp0 _ _ e (ne_of u1 ow (by intro z; cases z))) (fun o e => kp0 _ _ e (ne_of w1 ow (by intro z; cases z))) (fun o e => kp0 _ _ e (ne_of D1.at_ ow (by intro z; cases z))) t0
  have xn0 : Nrw H0 D S m ts := xn.keep (fun b hb o e => by
      obtain ⟨kv, h, _⟩ := xn.at_ b hb
      exact kp0 _ _ e (ne_of h ow (by intro z; cases z))) (fun b hb o e => by
      obtain ⟨kv, h, _⟩ := xn.ls b hb
      exact kp0 _ _ e (ne_of h ow (by intro z; cases z))) t0 (fun _ _ h => h) (Nat.le_refl _)
  have ht0 := ht.tups t0
  -- met = near.setdefault(top_words(thing), [])
  have sz := size_pos t
  obtain ⟨kvs, kv1, kv2, _⟩ := xn0.at_ dn hD
  refine ⟨_, rfl, .inr (.inr (.inl ⟨rfl, .inr ⟨kvs, kv1⟩⟩)), _, rfl, v, t, rfl, ht0, by omega, fun r H1 g1 h1 => ⟨Nat.zero_le _, fun q1 hq1 => ?_⟩⟩
  have g2 := g1.trans (same_new hq1 (.lst []))
  refine ⟨dn, r, .ref q1, kvs, tkey t, rfl, rfl, g2 _ _ kv1, (same_new hq1 (.lst [])) _ _ h1, by rw [sizeLine_eq]; omega, fun nv H3 hpost => ?_⟩
  obtain ⟨l, S1, rfl, lS, x3n, sub3, own3, kp3, th3⟩ := nrw_new xn0 hD kv1 g1 hq1 hpost
  clear hpost g2 h1 g1 hq1
  have t3 : Tups H0 H3 := fun b xs e => kp3 b _ e (ne_of e kv1 (by intro z; cases z))
  have ht3 := ht0.tups t3
  have ow3 : H3 wk = some (.ins CW dxw (wfl p (k0 + 1))) := kp3 _ _ ow0 (ne_of ow0 kv1 (by intro z; cases z))
  have W3 : WkAt CW H3 wk p := ⟨_, _, ow3⟩
  have x3 : Pl P w C H3 p a f d ts := by
    obtain ⟨dx, o1⟩ := x0.ob
    obtain ⟨us, u1, _⟩ := x0.th
    obtain ⟨ws, w1, _⟩ := x0.fo
    obtain ⟨kv, D, _⟩ := x0.kn
    exact x0.keep (fun o e => kp3 _ _ e (ne_of o1 kv1 (by intro z; cases z))) (fun o e => kp3 _ _ e (ne_of u1 kv1 (by intro z; cases z))) (fun o e => kp3 _ _ e (ne_of w1 kv1 (by intro z; cases z))) (fun o e => kp3 _ _ e (ne_of D.at_ kv1 (by intro z; cases z))) t3
  have F3 : Frw a f d wk D D S S1 H H3 := ⟨fun b o e _ _ _ h4 h5 _ => kp3 b o (kp0 b o e h4) (fun z => h5 (z ▸ hD)), fun _ h => .inl h, fun b hb => (own3 b hb).elim .inl fun z => .inr (th0 b z), fun _ h => h, sub3, fun b hb => th0 b (th3 b hb)⟩
  have notS : ∀ c, c ∉ S → H c ≠ none → c ∉ S1 := fun c h1 h2 z => by
    rcases F3.ownS c z with z | z
    · exact h1 z
    · exact h2 z
  have aS1 : a ∉ S1 := notS a aS (by rw [u1]; intro z; cases z)
  have fS1 : f ∉ S1 := notS f fS (by rw [w1]; intro z; cases z)
  obtain ⟨es, hl, les, ees⟩ := x3n.ls l lS
  -- place = place_among(met, thing)
  refine ⟨_, rfl, _, rfl, l, v, t, es, ts, rfl, hl, ees, x3.ok, ht3, hok, hdp, fun j ej => ?_, ?_⟩
  · have e := ddup_in x.cl (List.mem_of_getElem? ej)
    refine ⟨_, rfl, true, by rw [decide_eq_false (fun z => nomatch z)]; rfl, iteT ⟨_, rfl, q j D S1 H3 W3 (by rw [e]; exact x3) (by rw [e]; exact x3n.mono (by omega)) (by rw [e]; exact ej) F3⟩⟩
  refine ⟨_, rfl, false, by rw [decide_eq_true rfl]; rfl, iteF ?_⟩
  -- inner = len([part for part in thing[1:] if len(part) > 1])
  obtain ⟨b0, wd, vs, ps, rfl, rfl, hb0, hps⟩ := ht3.inv
  simp only [Th.size, Th.depth] at hm hts hdn hdp
  have okp : okL ps = true := by
    simp only [Th.ok, Bool.and_eq_true] at hok
    exact hok.2
  have lvs := hps.length
  have lps := len_le_sizeL ps
  refine ⟨_, rfl, _, rfl, b0, _, rfl, SqT.of hb0, nowhole1 _ _, fun rA hrA => ?_⟩
  rw [cut1]
  have sA := same_new hrA (.tup vs)
  refine ⟨rA, rfl, ⟨_, SqT.of upd_same⟩, fun pA hpA => ?_⟩
  refine comp_tupIf (K := K) (a := rA) (xs := vs) (fun i ys σ H2 => (∃ x0, σ = [x0]) ∧ Same (upd H3 rA (.tup vs)) H2) (small (by omega)) ⟨⟨_, rfl⟩, same_new hpA (.lst [])⟩ (fun i ys σ H2 _ h => SqT.of (h.2 _ _ upd_same)) ?_ ?_
  · rintro i y ys σ H2 hi ⟨⟨x0, rfl⟩, g⟩ gp
    obtain ⟨ty, ety, hy⟩ := hps.get hi
    obtain ⟨b, wb, us, qs, rfl, rfl, hb, _⟩ := hy.inv
    refine ⟨_, rfl, b, _, rfl, .inr (SqT.of (g _ _ (sA _ _ hb))), _, _, rfl, rfl, _, rfl, ?_⟩
    refine ite2 (fun _ => ?_) (fun _ => ⟨gp, ⟨_, rfl⟩, g⟩)
    exact ⟨_, rfl, gp, ⟨_, rfl⟩, fun c o e => by rw [upd_ne (ne_of_none e hpA)]; exact g _ _ e⟩
  rintro ys σ H4 hyl ⟨_, gA⟩ gp
  have s34 : Same H3 H4 := sA.trans gA
  refine ⟨pA, ys, rfl, .inl (SqL.of gp), ?_⟩
  -- share = share_of(spare, inner) if self.steps < STEPS_ANEW else 0
  refine ⟨_, rfl, wk, CW, dxw, _, _, rfl, s34 _ _ ow3, TW.cl, TW.nS, wf_steps _ _, _, _, rfl, rfl, _, rfl, ?_⟩
  refine joinI (fun rest => ite2 (fun _ => ⟨_, rfl, _, rfl, _, _, rfl, by omega, fun r => rest r⟩) (fun _ => rest 0)) (fun sh => ?_)
  have W4 : WkAt CW H4 wk p := ⟨_, _, s34 _ _ ow3⟩
  have x4 := x3.same s34
  have x4n := x3n.same s34
  have F4 : Frw a f d wk D D S S1 H H4 := F3.trans (Frw.of s34)
  have ht4 := ht3.same s34
  have hb4 := s34 _ _ hb0
  have hps4 := hps.same s34
  generalize (ys.length : Int) = inn
  clear gA gp hyl hrA hpA
  -- scope = near; parts = []
  refine ⟨_, rfl, Nat.zero_le _, fun q2 hq2 => ?_⟩
  have s4 := same_new hq2 (.lst [])
  refine ⟨_, rfl, _, rfl, b0, _, rfl, SqT.of (s4 _ _ hb4), nowhole1 _ _, fun r2 hr2 => ?_⟩
  rw [cut1]
  have s5 := same_new hr2 (.tup vs)
  have s45 := s4.trans s5
  have q5 := s5 _ _ (@upd_same H4 q2 (.lst []))
  have r5 := @upd_same (upd H4 q2 (.lst [])) r2 (.tup vs)
  have hqr : q2 ≠ r2 := ne_of_none upd_same hr2
  have x5 := x4.same s45
  have x5n := x4n.same s45
  have W5 : WkAt CW (upd (upd H4 q2 (.lst [])) r2 (.tup vs)) wk p := by
    obtain ⟨dx, k, o⟩ := W4
    exact ⟨dx, k, s45 _ _ o⟩
  generalize hH5 : upd (upd H4 q2 (.lst [])) r2 (.tup vs) = H5 at *
  obtain ⟨us3, th3', ar3⟩ := x4.th
  obtain ⟨ws3, fo3, _⟩ := x4.fo
  obtain ⟨kvs3, D3, _⟩ := x4.kn
  obtain ⟨dx4, k4, o4⟩ := W4
  have q2a : q2 ≠ a := fun z => by rw [z, th3'] at hq2; cases hq2
  have q2f : q2 ≠ f := fun z => by rw [z, fo3] at hq2; cases hq2
  have q2d : q2 ≠ d := fun z => by rw [z, D3.at_] at hq2; cases hq2
  have q2w : q2 ≠ wk := fun z => by rw [z, o4] at hq2; cases hq2
  have q2S : q2 ∉ S1 := fun z => by
    obtain ⟨xs, h, _⟩ := x4n.ls _ z
    rw [h] at hq2
    cases hq2
  have q2D : q2 ∉ D := fun z => by
    obtain ⟨xs, h, _⟩ := x4n.at_ _ z
    rw [h] at hq2
    cases hq2
  have W4 : WkAt CW H4 wk p := ⟨dx4, k4, o4⟩
  refine ⟨r2, rfl, ⟨_, SqT.of r5⟩, for_tup (K := K) (a := r2) (xs := vs) (fun i σ H6 => ∃ (D6 S6 : List Addr) (ds : Addr) (js : List Nat) (x10 : Option V), σ = [some (.ref wk), some (.ref b0), some (.ref dn), some (.int sp), some (.ref l), some .non, some (.int inn), some (.int sh), some (.ref ds), some (.ref q2), x10] ∧
      WkAt CW H6 wk p ∧ Pl P w C H6 p a f d (ddup ts (insideL (ps.take i))) ∧ Nrw H6 D6 S6 (m + 1 + 2 * sizeL (ps.take i)) (ddup ts (insideL (ps.take i))) ∧ ds ∈ D6 ∧ Frw a f d wk D D6 S1 S6 H4 H6 ∧ q2 ∉ D6 ∧ q2 ∉ S6 ∧ a ∉ S6 ∧ f ∉ S6 ∧ H6 q2 = some (.lst (js.map jv)) ∧ js.length = i ∧
      (∀ (k j : Nat), js[k]? = some j → ∃ s, ps[k]? = some s ∧ (ddup ts (insideL (ps.take i)))[j]? = some s) ∧ H6 r2 = some (.tup vs))
    ⟨D, S1, dn, [], _, rfl, W5, ?_, ?_, hD, Frw.of s45, q2D, q2S, aS1, fS1, q5, rfl, fun k j h => by simp at h, r5⟩ (fun i σ H6 _ ⟨_, _, _, _, _, _, _, _, _, _, _, _, _, _, _, _, _, _, h⟩ => SqT.of h) ?_ ?_⟩
  · simp only [List.take_zero, insideL, ddup_nil]
    exact x5
  · simp only [List.take_zero, insideL, sizeL, ddup_nil, Nat.mul_zero, Nat.add_zero]
    exact x5n
  · intro i y
    have eS : ∀ ty, ps[i]? = some ty → ddup (ddup ts (insideL (ps.take i))) ty.inside = ddup ts (insideL (ps.take (i + 1))) := fun ty ety => by rw [insideL_snoc ps i ty ety, ddup_append]
    -- how a turn ends
    have fin : ∀ (ty : Th) (ds7 : Addr) (D7 S7 : List Addr) (H7 : Hp) (js : List Nat) (j : Nat) (x10 : Option V), ps[i]? = some ty → js.length = i → (∀ (k j : Nat), js[k]? = some j → ∃ s, ps[k]? = some s ∧ (ddup ts (insideL (ps.take i)))[j]? = some s) → WkAt CW H7 wk p → Pl P w C H7 p a f d (ddup ts (insideL (ps.take (i + 1)))) → Nrw H7 D7 S7 (m + 1 + 2 * sizeL (ps.take (i + 1))) (ddup ts (insideL (ps.take (i + 1)))) → ds7 ∈ D7 → Frw a f d wk D D7 S1 S7 H4 H7 → q2 ∉ D7 → q2 ∉ S7 → a ∉ S7 → f ∉ S7 → H7 q2 = some (.lst (js.map jv)) → H7 r2 = some (.tup vs) → (ddup ts (insideL (ps.take (i + 1))))[j]? = some ty →
        ∃ (D6 S6 : List Addr) (ds : Addr) (js' : List Nat) (x10' : Option V), [some (.ref wk), some (.ref b0), some (.ref dn), some (.int sp), some (.ref l), some .non, some (.int inn), some (.int sh), some (.ref ds7), some (.ref q2), x10] = [some (.ref wk), some (.ref b0), some (.ref dn), some (.int sp), some (.ref l), some .non, some (.int inn), some (.int sh), some (.ref ds), some (.ref q2), x10'] ∧
          WkAt CW (upd H7 q2 (.lst (js.map jv ++ [jv j]))) wk p ∧ Pl P w C (upd H7 q2 (.lst (js.map jv ++ [jv j]))) p a f d (ddup ts (insideL (ps.take (i + 1)))) ∧ Nrw (upd H7 q2 (.lst (js.map jv ++ [jv j]))) D6 S6 (m + 1 + 2 * sizeL (ps.take (i + 1))) (ddup ts (insideL (ps.take (i + 1)))) ∧ ds ∈ D6 ∧ Frw a f d wk D D6 S1 S6 H4 (upd H7 q2 (.lst (js.map jv ++ [jv j]))) ∧ q2 ∉ D6 ∧ q2 ∉ S6 ∧ a ∉ S6 ∧ f ∉ S6 ∧ (upd H7 q2 (.lst (js.map jv ++ [jv j]))) q2 = some (.lst (js'.map jv)) ∧ js'.length = i + 1 ∧
          (∀ (k j : Nat), js'[k]? = some j → ∃ s, ps[k]? = some s ∧ (ddup ts (insideL (ps.take (i + 1))))[j]? = some s) ∧ (upd H7 q2 (.lst (js.map jv ++ [jv j]))) r2 = some (.tup vs) := by
      intro ty ds7 D7 S7 H7 js j x10 ety lw hjs W7 x7 x7n dsD7 F7 q2D7 q2S7 aS7 fS7 q7 r7 e7
      obtain ⟨dx7, k7, o7⟩ := W7
      refine ⟨D7, S7, ds7, js ++ [j], x10, rfl, ⟨dx7, k7, by rw [upd_ne (Ne.symm q2w)]; exact o7⟩, x7.but q7 q2a q2f, ?_, dsD7, ?_, q2D7, q2S7, aS7, fS7, ?_, by rw [List.length_append, List.length_singleton, lw], fun k j' hk => ?_, ?_⟩
      · refine x7n.keep (fun b hb o e => ?_) (fun b hb o e => ?_) (tups_upd fun xs e => by rw [q7] at e; cases e) (fun _ _ h => h) (Nat.le_refl _)
        · rw [upd_ne (show b ≠ q2 from fun z => q2D7 (by rw [← z]; exact hb))]; exact e
        · rw [upd_ne (show b ≠ q2 from fun z => q2S7 (by rw [← z]; exact hb))]; exact e
      · refine ⟨fun b o e h1 h2 h3 h4 h5 h6 => ?_, F7.ownD, F7.ownS, F7.subD, F7.subS, fun b hb => ?_⟩
        · rw [upd_ne (ne_of_none e hq2)]
          exact F7.keep b o e h1 h2 h3 h4 h5 h6
        · by_cases hbq : b = q2
          · subst hbq
            rw [upd_same] at hb
            cases hb
          · rw [upd_ne hbq] at hb
            exact F7.there b hb
      · rw [upd_same, List.map_append]; rfl
      · rcases Nat.lt_or_ge k js.length with hk' | hk'
        · rw [List.getElem?_append_left hk'] at hk
          obtain ⟨s0, h1, h2⟩ := hjs k j' hk
          refine ⟨s0, h1, ?_⟩
          rw [← eS ty ety]
          exact ddup_get h2
        · rw [List.getElem?_append_right hk'] at hk
          have h0 : k - js.length = 0 := by
            have := (List.getElem?_eq_some_iff.mp hk).1
            simp at this
            omega
          rw [h0] at hk
          simp at hk
          subst hk
          have : k = i := by omega
          subst this
          exact ⟨ty, ety, e7⟩
      · rw [upd_ne (Ne.symm hqr)]
        exact r7
    refine' join2 (F := fun ds' H' => vs[i]? = some y ∧ ∃ (D' S' : List Addr) (js : List Nat), WkAt CW H' wk p ∧ Pl P w C H' p a f d (ddup ts (insideL (ps.take i))) ∧ Nrw H' D' S' (m + 1 + 2 * sizeL (ps.take i)) (ddup ts (insideL (ps.take i))) ∧ ds' ∈ D' ∧ Frw a f d wk D D' S1 S' H4 H' ∧ q2 ∉ D' ∧ q2 ∉ S' ∧ a ∉ S' ∧ f ∉ S' ∧ H' q2 = some (.lst (js.map jv)) ∧ js.length = i ∧ (∀ (k j : Nat), js[k]? = some j → ∃ s, ps[k]? = some s ∧ (ddup ts (insideL (ps.take i)))[j]? = some s) ∧ H' r2 = some (.tup vs)) (fun rest => ?myk) ?myh
    case myk =>
      rintro σ H6 hi ⟨D6, S6, ds, js, x10, rfl, W6, x6, x6n, dsD, F6, q2D6, q2S6, aS6, fS6, q6, lw, hjs, r6⟩
      have hiv : i < vs.length := (List.getElem?_eq_some_iff.mp hi).1
      obtain ⟨ty, ety, hy⟩ := hps4.get hi
      have hmem : ty ∈ ps := List.mem_of_getElem? ety
      have oky : ty.ok = true := by
        rw [okL_all, List.all_eq_true] at okp
        exact okp ty hmem
      have m2 := depthL_mem hmem
      have m4 := sizeL_snoc ps i ty ety
      have t6 : Tups H4 H6 := F6.tups W4 x4 x4n
      have hb6 := t6 _ _ hb4
      obtain ⟨dx6, k6, o6⟩ := W6
      have W6 : WkAt CW H6 wk p := ⟨dx6, k6, o6⟩
      have here := rest ds H6 ⟨hi, D6, S6, js, W6, x6, x6n, dsD, F6, q2D6, q2S6, aS6, fS6, q6, lw, hjs, r6⟩
      dsimp only [gName, List.set_cons_succ, List.set_cons_zero]
      refine' joinTE (fun thn els => ?mykk) ?mythn ?myels
      case mykk =>
        refine ⟨_, rfl, _, _, rfl, rfl, _, rfl, ite2 (fun _ => ?_) (fun _ => iteF els)⟩
        refine ⟨_, rfl, _, _, rfl, rfl, _, rfl, ite2 (fun _ => iteT thn) (fun _ => ?_)⟩
        exact ⟨_, rfl, wk, CW, dx6, _, _, rfl, o6, TW.cl, TW.nS, wf_steps _ _, _, _, rfl, rfl, _, rfl, ite2 (fun _ => thn) (fun _ => els)⟩
      case myels =>
        by_cases hne : js = []
        · exact ⟨_, rfl, false, .inl ⟨_, SqL.of q6, by rw [hne]; rfl⟩, iteF (iteF here)⟩
        · have hpos : 0 < js.length := List.length_pos_iff.mpr hne
          have lmap : (js.map jv).length = js.length := List.length_map _
          obtain ⟨vp, evp⟩ : ∃ vp, vs[i - 1]? = some vp := ⟨_, List.getElem?_eq_getElem (show i - 1 < vs.length by omega)⟩
          obtain ⟨tp, etp, hvp⟩ := hps4.get evp
          have okt : tp.ok = true := by
            rw [okL_all, List.all_eq_true] at okp
            exact okp tp (List.mem_of_getElem? etp)
          have m3 := depthL_mem (List.mem_of_getElem? etp)
          have at1 : atI (V.str wd :: vs) (((js.map jv).length : Nat) : Int) = some vp := by
            refine atI_nat ?_
            rw [lmap, lw, show i = (i - 1) + 1 by omega, List.getElem?_cons_succ]
            exact evp
          refine ⟨_, rfl, true, .inl ⟨_, SqL.of q6, by cases js with | nil => exact absurd rfl hne | cons _ _ => rfl⟩, iteT ?_⟩
          refine ⟨_, rfl, _, rfl, _, rfl, q2, js.map jv, rfl, .inl (SqL.of q6), b0, _, _, vp, rfl, rfl, SqT.of hb6, at1, _, _, (hy.tups t6).dt, (hvp.tups t6).dt, lay_of _ oky, lay_of _ okt, ?_, _, rfl, ?_⟩
          · rw [depth_toD, depth_toD]
            omega
          rw [eqv_dec]
          by_cases hjt : ty = tp
          · rw [decide_eq_true hjt]
            refine iteT ?_
            obtain ⟨vl, al, bl⟩ := at_end (js.map jv) (by omega)
            rw [List.getElem?_map, lmap] at bl
            obtain ⟨jl, hjl, rfl⟩ : ∃ jl, js[js.length - 1]? = some jl ∧ vl = jv jl := by
              cases e : js[js.length - 1]? with
              | none => rw [e] at bl; cases bl
              | some jl => rw [e] at bl; exact ⟨jl, rfl, (Option.some.inj bl).symm⟩
            obtain ⟨sl, hs1, hs2⟩ := hjs _ _ hjl
            have esl : sl = ty := by
              rw [lw, etp] at hs1
              rw [hjt]
              exact (Option.some.inj hs1).symm
            subst esl
            have eD : ddup ts (insideL (ps.take (i + 1))) = ddup ts (insideL (ps.take i)) := by
              rw [← eS sl ety]
              exact ddup_in x6.cl (List.mem_of_getElem? hs2)
            refine ⟨_, rfl, .inl ⟨rfl, _, SqL.of q6⟩, _, rfl, _, rfl, q2, js.map jv, _, _, rfl, rfl, SqL.of q6, al, q2, js.map jv, jv jl, rfl, rfl, q6, by rw [lmap, sizeLine_eq]; omega, ?_⟩
            exact fin sl ds D6 S6 H6 js jl _ ety lw hjs W6 (by rw [eD]; exact x6) (by rw [eD]; exact x6n.mono (by omega)) dsD F6 q2D6 q2S6 aS6 fS6 q6 r6 (by rw [eD]; exact hs2)
          · rw [decide_eq_false hjt]
            exact iteF here
      case mythn =>
        intro cc hcc
        have sc := same_new hcc (.dT [])
        refine rest cc (upd H6 cc (.dT [])) ⟨hi, cc :: D6, S6, js, ⟨dx6, k6, sc _ _ o6⟩, x6.same sc, x6n.more hcc, List.mem_cons_self, ?_, ?_, q2S6, aS6, fS6, sc _ _ q6, lw, hjs, sc _ _ r6⟩
        · have F7 := F6.trans (Frw.of (D := D6) (S := S6) sc)
          exact ⟨F7.keep, fun b hb => (List.mem_cons.mp hb).elim (fun z => .inr (by rw [z]; exact F6.there _ hcc)) (F7.ownD b), F7.ownS, fun b hb => List.mem_cons_of_mem _ (F7.subD b hb), F7.subS, F7.there⟩
        · intro z
          rcases List.mem_cons.mp z with z | z
          · rw [← z, q6] at hcc; cases hcc
          · exact q2D6 z
    case myh =>
      rintro ds H6 ⟨hi, D6, S6, js, W6, x6, x6n, dsD, F6, q2D6, q2S6, aS6, fS6, q6, lw, hjs, r6⟩
      have hiv : i < vs.length := (List.getElem?_eq_some_iff.mp hi).1
      obtain ⟨ty, ety, hy⟩ := hps4.get hi
      have hmem : ty ∈ ps := List.mem_of_getElem? ety
      have m1 := sizeL_snoc ps i ty ety
      have m2 := depthL_mem hmem
      have m3 := sizeL_take ps (i + 1)
      have oky : ty.ok = true := by
        rw [okL_all, List.all_eq_true] at okp
        exact okp ty hmem
      have t6 : Tups H4 H6 := F6.tups W4 x4 x4n
      have hl6 := ddup_len (insideL (ps.take i)) ts
      rw [insideL_len] at hl6
      obtain ⟨dx6, k6, o6⟩ := W6
      have W6 : WkAt CW H6 wk p := ⟨dx6, k6, o6⟩
      refine ⟨_, rfl, .inl ⟨rfl, _, SqL.of q6⟩, _, rfl, wk, dx6, _, rfl, o6, wf_within _ _, _, rfl, _, rfl, sh, sp, rfl, rfl, fun z => ?_⟩
      refine ⟨wk, p, ds, y, z, ty, a, f, d, D6, S6, _, _, rfl, W6, x6, x6n, dsD, aS6, fS6, hy.tups t6, oky, by omega, by omega, by omega, by omega, fun j D7 S7 H7 W7 x7 x7n e7 F7 => ?_⟩
      have q7 : H7 q2 = some (.lst (js.map jv)) := F7.keep _ _ q6 q2a q2f q2d q2w q2D6 q2S6
      have no7 : ∀ c, c ∉ S6 → H6 c ≠ none → c ∉ S7 := fun c h1 h2 z => by
        rcases F7.ownS c z with z | z
        · exact h1 z
        · exact h2 z
      have q2S7 : q2 ∉ S7 := no7 q2 q2S6 (by rw [q6]; intro z; cases z)
      have q2D7 : q2 ∉ D7 := fun z => by
        rcases F7.ownD _ z with z | z
        · exact q2D6 z
        · rw [q6] at z; cases z
      obtain ⟨us6, th6, _⟩ := x6.th
      obtain ⟨ws6, fo6, _⟩ := x6.fo
      have aS7 : a ∉ S7 := no7 a aS6 (by rw [th6]; intro z; cases z)
      have fS7 : f ∉ S7 := no7 f fS6 (by rw [fo6]; intro z; cases z)
      refine ⟨q2, js.map jv, jv j, rfl, rfl, q7, by rw [List.length_map, sizeLine_eq]; omega, ?_⟩
      have r7 : H7 r2 = some (.tup vs) := F7.tups W6 x6 x6n _ _ r6
      rw [eS ty ety] at x7 x7n e7
      have eM : m + 1 + 2 * sizeL (ps.take i) + 2 * ty.size = m + 1 + 2 * sizeL (ps.take (i + 1)) := by omega
      rw [eM] at x7n
      exact fin ty ds D7 S7 H7 js j _ ety lw hjs W7 x7 x7n (F7.subD _ dsD) (F6.trans F7) q2D7 q2S7 aS7 fS7 q7 r7 e7
  · rintro σ H6 ⟨D6, S6, ds, js, x10, rfl, W6, x6, x6n, dsD, F6, q2D6, q2S6, aS6, fS6, q6, lw, hjs, r6⟩
    have ep : ps.take vs.length = ps := by rw [lvs, List.take_length]
    rw [ep] at x6 x6n hjs
    have t6 : Tups H4 H6 := F6.tups W4 x4 x4n
    have hb6 := t6 _ _ hb4
    obtain ⟨dxp6, op6⟩ := x6.ob
    obtain ⟨dx6, k6, o6⟩ := W6
    have ldd := ddup_len (insideL ps) ts
    rw [insideL_len] at ldd
    have lS6 := F6.subS l lS
    have pin : ∀ s0 ∈ ps, s0 ∈ ddup ts (insideL ps) := fun s0 hs0 => (mem_ddup _ _ _).mpr (.inr (by rw [insideL_flat, List.mem_flatMap]; exact ⟨s0, hs0, self_in s0⟩))
    have ejs : js = ps.map fun s0 => (ddup ts (insideL ps)).idxOf s0 := by
      refine List.ext_getElem? fun k => ?_
      rw [List.getElem?_map]
      cases e : js[k]? with
      | none =>
        have : js.length ≤ k := by simpa using e
        rw [List.getElem?_eq_none (by omega)]
        rfl
      | some j0 =>
        obtain ⟨s0, h1, h2⟩ := hjs k j0 e
        rw [h1, Option.map_some, idx_of x6.nd h2]
    -- place = self.places.place_by_form(thing, (thing[0], tuple(parts)))
    refine ⟨_, rfl, wk, CW, dx6, _, _, rfl, o6, TW.cl, TW.nP, wf_places _ _, p, dxp6, _, rfl, op6, fl_form _ _ _, _, rfl, _, rfl, b0, _, _, .str wd, rfl, rfl, SqT.of hb6, pat0 _ _, _, rfl, q2, _, rfl, .inl ⟨SqL.of q6, fun e0 he0 => ?_⟩⟩
    have s6 := same_new he0 (.tup (js.map jv))
    refine ⟨by show 2 ≤ sizeLine; decide, fun c0 hc0 => ?_⟩
    have s7 := same_new hc0 (.tup [.str wd, .ref e0])
    have s67 := s6.trans s7
    refine ⟨p, c0, .ref b0, .mk wd ps, a, f, d, _, rfl, x6.same s67, (ht4.tups t6).same s67, hok, by simp only [Th.depth]; omega, pin, ⟨c0, e0, rfl, upd_same, ?_⟩, by omega, fun j H8 x8 e8 F8 => ?_⟩
    · rw [s7 _ _ upd_same, ejs]
      rfl
    have eI : (Th.mk wd ps).inside = insideL ps ++ [Th.mk wd ps] := by simp [Th.inside]
    have eD : ddup ts (Th.mk wd ps).inside = if Th.mk wd ps ∈ ddup ts (insideL ps) then ddup ts (insideL ps) else ddup ts (insideL ps) ++ [Th.mk wd ps] := by
      rw [eI, ddup_snoc]
    rw [← eD] at x8 e8
    have t68 : Tups H6 H8 := fun b xs e => (F8.tups (x6.same s67)) b xs (s67 _ _ e)
    have F8' : Fr3 a f d H6 H8 := (Fr3.of s67).trans F8
    -- met.append((thing, place))
    obtain ⟨es6, hl6, le6, ee6⟩ := x6n.ls l lS6
    have nla : l ≠ a := fun z => aS6 (z ▸ lS6)
    have nlf : l ≠ f := fun z => fS6 (z ▸ lS6)
    obtain ⟨us6, th6, _⟩ := x6.th
    obtain ⟨ws6, fo6, _⟩ := x6.fo
    obtain ⟨kvs6, D6', _⟩ := x6.kn
    have nld : l ≠ d := ne_of hl6 D6'.at_ (by intro z; cases z)
    have nlw : l ≠ wk := ne_of hl6 o6 (by intro z; cases z)
    have hl8 := F8'.keep _ _ hl6 nla nlf nld
    have o8 := F8'.keep _ _ o6 (ne_of o6 th6 (by intro z; cases z)) (ne_of o6 fo6 (by intro z; cases z)) (ne_of o6 D6'.at_ (by intro z; cases z))
    refine ⟨_, rfl, .inl ⟨rfl, _, SqL.of hl8⟩, _, rfl, _, rfl, by show 2 ≤ sizeLine; decide, fun c9 hc9 => ?_⟩
    have s9 := same_new hc9 (.tup [.ref b0, jv j])
    refine ⟨l, es6, .ref c9, rfl, rfl, s9 _ _ hl8, by rw [sizeLine_eq]; omega, ?_⟩
    have x9 := x8.same s9
    have sE : (Th.mk wd ps).size = sizeL ps + 1 := by simp [Th.size]
    have tu9 : Tups H6 (upd (upd H8 c9 (.tup [.ref b0, jv j])) l (.lst (es6 ++ [.ref c9]))) := fun b xs e => by
      rw [upd_ne (ne_of e hl6 (by intro z; cases z))]
      exact s9 _ _ (t68 _ _ e)
    have new9 : (upd (upd H8 c9 (.tup [.ref b0, jv j])) l (.lst (es6 ++ [.ref c9]))) c9 = some (.tup [.ref b0, jv j]) := by
      rw [upd_ne (fun z => by rw [z, hl8] at hc9; cases hc9), upd_same]
    refine ⟨_, rfl, q j D6 S6 _ ⟨dx6, k6, by rw [upd_ne (Ne.symm nlw)]; exact s9 _ _ o8⟩ (x9.but (s9 _ _ hl8) nla nlf) ⟨fun b hb => ?_, fun b hb => ?_⟩ e8 ?_⟩
    · obtain ⟨kv, k1, k2, k3⟩ := x6n.at_ b hb
      refine ⟨kv, ?_, by rw [sE]; omega, k3⟩
      rw [upd_ne (ne_of k1 hl6 (by intro z; cases z))]
      exact s9 _ _ (F8'.keep _ _ k1 (ne_of k1 th6 (by intro z; cases z)) (ne_of k1 fo6 (by intro z; cases z)) (ne_of k1 D6'.at_ (by intro z; cases z)))
    · by_cases hbl : b = l
      · subst hbl
        refine ⟨_, upd_same, by rw [List.length_append, List.length_singleton, sE]; omega, fun e he => ?_⟩
        rcases List.mem_append.mp he with he | he
        · obtain ⟨c, v, j0, t0, k1, k2, k3, k4⟩ := ee6 e he
          refine ⟨c, v, j0, t0, k1, tu9 _ _ k2, k3.tups tu9, ?_⟩
          rw [eI, ddup_append]
          exact ddup_get k4
        · rw [List.mem_singleton] at he
          subst he
          exact ⟨c9, .ref b0, j, _, rfl, new9, (ht4.tups t6).tups tu9, e8⟩
      · obtain ⟨es2, k1, k2, k3⟩ := x6n.ls b hb
        refine ⟨es2, ?_, by rw [sE]; omega, fun e he => ?_⟩
        · rw [upd_ne hbl]
          exact s9 _ _ (F8'.keep _ _ k1 (fun z => aS6 (z ▸ hb)) (fun z => fS6 (z ▸ hb)) (ne_of k1 D6'.at_ (by intro z; cases z)))
        · obtain ⟨c, v, j0, t0, k4, k5, k6, k7⟩ := k3 e he
          refine ⟨c, v, j0, t0, k4, tu9 _ _ k5, k6.tups tu9, ?_⟩
          rw [eI, ddup_append]
          exact ddup_get k7
    · have F46 := F4.trans F6
      refine ⟨fun b o e h1 h2 h3 h4 h5 h6 => ?_, F46.ownD, F46.ownS, F46.subD, F46.subS, fun b hb => ?_⟩
      · have e9 := F46.keep b o e h1 h2 h3 h4 h5 h6
        have hbl : b ≠ l := fun z => by
          rcases F46.ownS l lS6 with w1 | w1
          · exact h6 (z ▸ w1)
          · rw [← z, e] at w1; cases w1
        rw [upd_ne hbl]
        exact s9 _ _ (F8'.keep _ _ e9 h1 h2 h3)
      · refine F46.there b (F8'.there b ?_)
        by_cases hb1 : b = l
        · subst hb1; rw [upd_same] at hb; cases hb
        · rw [upd_ne hb1] at hb
          exact s9.free hb
theorem within0 {f C CW : Addr} {fd : FuncData} : FnOk P w K mg base CX0 1 f fd ["self", "thing", "near", "spare"] (spWalk P w C CW 0) := by
  have no : ∀ vs H Q E, ¬ spWalk P w C CW 0 vs H Q E := fun vs H Q E h => by
    obtain ⟨wk, p, dn, v, sp, t, a, f, d, D, S, m, ts, _, _, _, _, _, _, _, _, _, h1, _⟩ := h
    have := depth_pos t
    omega
  exact ⟨fun vs H Q E h => absurd h (no vs H Q E), fun A outer s H args us vs Q E _ _ _ _ h => absurd h (no vs H Q E)⟩
theorem within_all {f0 fT fA fS fB C CW : Addr} {fd fdT fdA fdS fdB : FuncData} (F : Fun K "place_within" "Walk.place_within" sPlaceIn f0 fd) (T : TxtP K mg C) (TW : TxtW K mg CW) (B : BltP mg) (mP : Meth K CW "place_within" f0) (bP : Binds K fd ["self", "thing", "near", "spare"] [])
    (GT : FnOk P w K mg base CX0 1 fT fdT ["thing"] spTop) (kT : PySem.W.keepIn K (.ref fT) = true) (bT : Binds K fdT ["thing"] []) (mT : mg "top_words" = some (.ref fT))
    (GA : FnOk P w K mg base CX0 1 fA fdA ["met", "thing"] spAmong) (kA : PySem.W.keepIn K (.ref fA) = true) (bA : Binds K fdA ["met", "thing"] []) (mA : mg "place_among" = some (.ref fA))
    (GS : FnOk P w K mg base CX0 1 fS fdS ["spare", "inner"] spShare) (kS : PySem.W.keepIn K (.ref fS) = true) (bS : Binds K fdS ["spare", "inner"] []) (mS : mg "share_of" = some (.ref fS))
    (mB : Meth K C "place_by_form" fB) (GB : FnOk P w K mg base CX0 1 fB fdB ["self", "thing", "form"] (spByForm P w C)) (bB : Binds K fdB ["self", "thing", "form"] []) : ∀ n : Nat, FnOk P w K mg base CX0 (n + 1) f0 fd ["self", "thing", "near", "spare"] (spWalk P w C CW n)
  | 0 => within0
  | n + 1 => ok_within F T TW B mP bP (within_all F T TW B mP bP GT kT bT mT GA kA bA mA GS kS bS mS mB GB bB n) GT kT bT mT GA kA bA mA GS kS bS mS mB GB bB
theorem scPlaceOf : FnScope ["self", "thing"] ["self", "thing"] (defScope sPlaceOf) := ⟨rfl, rfl, rfl, by decide +kernel, rfl, by decide +kernel, by decide +kernel⟩
theorem ok_placeOf {f0 fI fW C CW : Addr} {fd fdI fdW : FuncData} (F : Fun K "place_of" "Places.place_of" sPlaceOf f0 fd) (TW : TxtW K mg CW) (MW : Mk K CW fI) (GI : FnOk P w K mg base CX0 1 fI fdI ["self", "places"] (spWkInit CW)) (bI : Binds K fdI ["self", "places"] []) (mW : Meth K CW "place_within" fW) (bW : Binds K fdW ["self", "thing", "near", "spare"] [])
    (G : FnOk P w K mg base CX0 51 fW fdW ["self", "thing", "near", "spare"] (spWalk P w C CW 50)) : FnOk P w K mg base CX0 52 f0 fd ["self", "thing"] (spPlaceOf P w C) := by
  refine F.ok scPlaceOf (fun vs H Q E h => ?_) (fun cdv A outer s H vs Q E hr h => ?_)
  · obtain ⟨p, v, t, a, f, d, ts, rfl, _⟩ := h
    rfl
  obtain ⟨p, v, t, a, f, d, ts, rfl, x, ht, hok, hdp, hts, q⟩ := h
  obtain ⟨u2, mN, rN⟩ := TW.walks
  have hr2 : Room 2 _ := hr.mono (by decide)
  refine ⟨_, pss_one (ps_ret (pe_meth (pe_make MW GI hr2 rfl TW.mgC bI .nil pass0 (pa_cons (pv 0) pa_nil)) TW.cl mW G hr bW .nil pass0 (pa_cons (pv 1) (pa_cons pe_dnewT (pa_cons (pe_glob rfl mN rN) pa_nil))))), ?_⟩
  refine ⟨_, rfl, fun wk dx hwk hdx hne => ?_⟩
  have s0 : Same H (upd (upd H dx (.own wk)) wk (.ins CW dx [])) := fun c o e => by
    rw [upd_ne (ne_of_none e hwk), upd_ne (ne_of_none e hdx)]
    exact e
  refine ⟨wk, dx, p, rfl, upd_same, fun H1 W1 k1 th1 => ⟨rfl, ?_⟩⟩
  have s1 : Same H H1 := fun c o e => k1 c o (s0 c o e) (ne_of_none e hwk)
  obtain ⟨dxw, kw, o1⟩ := W1
  refine ⟨wk, dxw, _, rfl, o1, wf_within _ _, _, rfl, fun dn hdn => ?_⟩
  have s2 := same_new hdn (.dT [])
  have s12 := s1.trans s2
  refine ⟨wk, p, dn, v, _, t, a, f, d, [dn], [], 0, ts, rfl, ⟨dxw, kw, s2 _ _ o1⟩, x.same s12, ⟨fun b hb => ?_, fun l hl => nomatch hl⟩, by simp, by simp, by simp, ht.same s12, hok, hdp, hdp, by omega, by omega, fun j D' S' H' W' x' n' e' F' => ?_⟩
  · rw [List.mem_singleton] at hb
    subst hb
    exact ⟨[], upd_same, Nat.le_refl _, fun k v e => by rw [valV_nil] at e; cases e⟩
  · refine q j H' x' e' ⟨fun b o e h1 h2 h3 => F'.keep b o (s12 _ _ e) h1 h2 h3 (ne_of_none e hwk) (fun z => ?_) (by simp), fun b hb => s12.free (F'.there b hb)⟩
    rw [List.mem_singleton] at z
    exact ne_of_none (s1 _ _ e) hdn z
end
end K01

set_option Elab.async false
set_option linter.all false
set_option maxRecDepth 100000
namespace K01
open PySem L2 Sb
def spAll : Sp := fun vs H Q _ => ∃ (b : Addr) (us : List V) (ts : List Th), vs = [.ref b] ∧ H b = some (.lst us) ∧ AreTh H us ts ∧ (∀ t ∈ ts, t.ok = true ∧ t.depth ≤ 50) ∧ sizeL ts ≤ 500000 ∧
  ∀ (r : Addr) (us' : List V) (H' : Hp), Same H H' → H' r = some (.lst us') → AreTh H' us' (ddup [] (insideL ts)) → Q (.ref r) H'
theorem cut_to (ns : List Int) (k : Nat) : cutV (ns.map V.int) none (some (k : Int)) = (ns.take k).map V.int := by
  unfold cutV
  rw [HT.sIx_none, HT.sIx_nat]
  simp [List.map_take]
theorem cut_last (xs : List V) (k : Nat) (h : k ≤ xs.length) (hk : 0 < k) : cutV xs (some (-(k : Int))) none = xs.drop (xs.length - k) := by
  have e : HT.sIx xs.length 0 (some (-(k : Int))) = xs.length - k := by
    show (if (-(k : Int)) < 0 then ((-(k : Int)) + (xs.length : Int)).toNat else min (-(k : Int)).toNat xs.length) = xs.length - k
    rw [if_pos (by omega)]
    omega
  unfold cutV
  rw [e, HT.sIx_none]
  rw [List.take_of_length_le]
  rw [List.length_drop]
  omega
theorem at_last (xs : List V) (h : 0 < xs.length) : ∃ v, atI xs (-1) = some v ∧ xs[xs.length - 1]? = some v := by
  have hi : xs.length - 1 < xs.length := by omega
  refine ⟨_, ?_, List.getElem?_eq_getElem hi⟩
  unfold atI ixN
  rw [if_neg (by decide), if_pos (by omega)]
  have e : ((-1 : Int) + (xs.length : Int)).toNat = xs.length - 1 := by omega
  rw [e]
  show xs[xs.length - 1]? = _
  exact List.getElem?_eq_getElem hi
theorem any_mem (cur : List Th) (t : Th) : ((toDL cur).any fun d => PyData.eqv d t.toD) = decide (t ∈ cur) := by
  rw [toDL_map, List.any_map, Bool.eq_iff_iff, List.any_eq_true, decide_eq_true_iff]
  constructor
  · rintro ⟨s, hs, e⟩
    have : s = t := (eqv_iff s t).mp e
    subst this
    exact hs
  · intro h
    exact ⟨t, h, (eqv_iff t t).mpr rfl⟩
/-- what a list of things needs to be compared -/
theorem so_ready {ts : List Th} (n : Nat) (hn : ∀ t ∈ ts, t.size ≤ 200 ∧ t.ok = true ∧ t.depth ≤ 50) (hl : ts.length ≤ 2000) : (PyData.list (toDL ts)).canLay0 = true ∧ nodes (PyData.list (toDL ts)) ≤ 1000000 ∧ (PyData.list (toDL ts)).depth ≤ 60 := by
  have h1 := sizeL_bound ts 200 fun t ht => (hn t ht).1
  have h2 := depthL_bound ts 50 fun t ht => (hn t ht).2.2
  refine ⟨?_, ?_, ?_⟩
  · simp only [PyData.canLay0]
    refine layL_of ts ?_
    rw [okL_all, List.all_eq_true]
    exact fun t ht => (hn t ht).2.1
  · simp only [nodes, nodes_ths]
    omega
  · simp only [PyData.depth, depthL_toD]
    omega
section
variable {P : Program} {w : World} {K : PySem.W.Frag} {mg : Str → Option Value} {base : Heap}
theorem scAll : FnScope ["things", "places", "thing"] ["things"] (defScope sAll) := ⟨rfl, rfl, rfl, by decide +kernel, rfl, by decide +kernel, by decide +kernel⟩
theorem ok_all {f0 fI fP C : Addr} {fd fdI fdP : FuncData} (F : Fun K "all_things" "all_things" sAll f0 fd) (T : TxtP K mg C) (M : Mk K C fI) (GI : FnOk P w K mg base CX0 1 fI fdI ["self"] (spPlInit P w C)) (bI : Binds K fdI ["self"] [])
    (mP : Meth K C "place_of" fP) (GP : FnOk P w K mg base CX0 52 fP fdP ["self", "thing"] (spPlaceOf P w C)) (bP : Binds K fdP ["self", "thing"] []) : FnOk P w K mg base CX0 53 f0 fd ["things"] spAll := by
  refine F.ok scAll (fun vs H Q E h => ?_) (fun cdv A outer s H vs Q E hr h => ?_)
  · obtain ⟨b, us, ts, rfl, _⟩ := h
    rfl
  obtain ⟨b, us, ts, rfl, hb, hts, hok, hsz, q⟩ := h
  have nd := scAll.nd
  have hr2 : Room 2 _ := hr.mono (by decide)
  refine ⟨_, pss_cons (ps_set (i := 1) nd rfl (Or.inl rfl) (pe_make0 M GI hr2 rfl T.mgC bI .nil pass0))
    (pss_cons (ps_for PassesOwn.never rfl (pi_list (pv 0)) (pg_name (i := 2) nd rfl (Or.inl rfl))
      (pss_one (ps_expr (pe_meth (pv 1) T.cl mP GP hr bP .nil pass0 (pa_cons (pv 2) pa_nil)))))
    (pss_one (ps_ret (pe_fld (pv 1) rfl)))), ?_⟩
  intro x dx nx ndx nex
  refine ⟨x, dx, rfl, upd_same, fun a f d H1 p1 kp na nf nd' => ⟨rfl, ?_⟩⟩
  have s0 : Same H (upd (upd H dx (.own x)) x (.ins C dx [])) := fun c o e => by
    rw [upd_ne (ne_of_none e nx), upd_ne (ne_of_none e ndx)]
    exact e
  have s1 : Same H H1 := fun c o e => kp c o (s0 c o e) (ne_of_none e nx)
  have na := s0.free na
  have nf := s0.free nf
  have nd' := s0.free nd'
  refine ⟨_, rfl, b, rfl, ⟨_, SqL.of (s1 _ _ hb)⟩, for_list (K := K) (a := b) (xs := us) (fun i σ H2 => ∃ (x2 : Option V), σ = [some (.ref b), some (.ref x), x2] ∧ Same H H2 ∧ Pl P w C H2 x a f d (ddup [] (insideL (ts.take i))))
    ⟨_, rfl, s1, by simp only [List.take_zero, insideL, ddup_nil]; exact p1⟩ (fun i σ H2 _ ⟨_, _, g, _⟩ => SqL.of (g _ _ hb)) ?_ ?_⟩
  · rintro i y σ H2 hi ⟨x2, rfl, g, p2⟩
    obtain ⟨t, et, hy⟩ := hts.get hi
    have hmem := List.mem_of_getElem? et
    obtain ⟨ok1, dp1⟩ := hok t hmem
    obtain ⟨dx2, o2⟩ := p2.ob
    have m1 := sizeL_snoc ts i t et
    have m2 := sizeL_take ts (i + 1)
    have ld := ddup_len (insideL (ts.take i)) []
    rw [insideL_len] at ld
    simp at ld
    refine ⟨_, rfl, x, dx2, _, rfl, o2, fl_place _ _ _, _, rfl, x, y, t, a, f, d, _, rfl, p2, hy.same g, ok1, dp1, by omega, fun j H3 p3 e3 F3 => ?_⟩
    refine ⟨_, rfl, fun c o e => ?_, ?_⟩
    · exact F3.keep c o (g c o e) (ne_of_none e na) (ne_of_none e nf) (ne_of_none e nd')
    · rw [insideL_snoc ts i t et, ddup_append]
      exact p3
  · rintro σ H2 ⟨x2, rfl, g, p2⟩
    have e : ts.take us.length = ts := by rw [hts.length, List.take_length]
    rw [e] at p2
    obtain ⟨dx2, o2⟩ := p2.ob
    obtain ⟨us', t1, t2⟩ := p2.th
    exact ⟨_, rfl, x, C, dx2, _, _, rfl, o2, T.cl, T.nT, fl_things _ _ _, q a us' H2 g t1 t2⟩
end
end K01

set_option Elab.async false
set_option linter.all false
set_option maxRecDepth 100000
namespace K01
open PySem L2 Sb
section
variable {P : Program} {w : World} {K : PySem.W.Frag} {mg : Str → Option Value} {base : Heap}
theorem scLaw : FnScope ["_law_script", "_law_things", "_law_found", "_law_due", "_law_some", "_law_thing", "_law_part", "_law_every"] ["_law_script"] (defScope sLaw) := ⟨rfl, rfl, rfl, by decide +kernel, rfl, by decide +kernel, by decide +kernel⟩
set_option maxHeartbeats 4000000 in
theorem ok_law {f0 fD fI fS fP fA : Addr} {fd dD dI dS dP dA : FuncData} (F : Fun K "law" "law" sLaw f0 fd) (B : Blt mg)
    (GD : FnOk P w K mg base CX0 2 fD dD ["_law_cells"] (spDrawn K)) (kD : PySem.W.keepIn K (.ref fD) = true) (bD : Binds K dD ["_law_cells"] []) (mD : mg "_law_drawn_things" = some (.ref fD))
    (GI : FnOk P w K mg base CX0 1 fI dI ["_law_thing"] spInside) (kI : PySem.W.keepIn K (.ref fI) = true) (bI : Binds K dI ["_law_thing"] []) (mI : mg "_law_inside" = some (.ref fI))
    (GS : FnOk P w K mg base CX0 1 fS dS ["_law_found", "_law_due"] spSo) (kS : PySem.W.keepIn K (.ref fS) = true) (bS : Binds K dS ["_law_found", "_law_due"] []) (mS : mg "_law_so" = some (.ref fS))
    (GP : FnOk P w K mg base CX0 50 fP dP ["thing"] (spParts 50)) (kP : PySem.W.keepIn K (.ref fP) = true) (bP : Binds K dP ["thing"] []) (mP : mg "parts_of" = some (.ref fP))
    (GA : FnOk P w K mg base CX0 53 fA dA ["things"] spAll) (kA : PySem.W.keepIn K (.ref fA) = true) (bA : Binds K dA ["things"] []) (mA : mg "all_things" = some (.ref fA)) :
    FnOk P w K mg base CX0 54 f0 fd ["_law_script"] (spLaw K) := by
  refine F.ok scLaw (fun vs H Q E h => ?_) (fun cdv A outer s H vs Q E hr h => ?_)
  · obtain ⟨a, ns, rfl, _⟩ := h
    rfl
  obtain ⟨a, ns, rfl, hS, hlen, q⟩ := h
  have nd := scLaw.nd
  have hu := hr.units
  have hr2 : Room 2 _ := hr.mono (by decide)
  have hr1 : Room 1 _ := hr.mono (by decide)
  have hr50 : Room 50 _ := hr.mono (by decide)
  refine ⟨_, pss_cons (ps_set (i := 1) nd rfl (Or.inl rfl) (pe_call GD hr2 rfl mD kD bD .nil pass0 (pa_cons (pe_slice sl_list (pv 0) po_none (po_some pe_int)) pa_nil)))
    (pss_cons (ps_set (i := 2) nd rfl (Or.inl rfl) (pe_call GP hr50 rfl mP kP bP .nil pass0 (pa_cons (pe_ix ix_list (pv 1) (pe_un un_neg pe_int) (fun _ _ => rfl)) pa_nil)))
    (pss_cons (ps_if (pt_not (pt_val (pe_call GS hr1 rfl mS kS bS .nil pass0 (pa_cons (pv 2) (pa_cons (pe_call GI hr1 rfl mI kI bI .nil pass0 (pa_cons (pe_ix ix_list (pv 1) (pe_un un_neg pe_int) (fun _ _ => rfl)) pa_nil)) pa_nil))))) (pss_one (ps_ret pe_bl)) pss_nil)
    (pss_cons (ps_set (i := 3) nd rfl (Or.inl rfl) (pe_lst pa_nil))
    (pss_cons (ps_set (i := 4) nd rfl (Or.inl rfl) (pe_slice sl_list (pv 1) (po_some (pe_un un_neg pe_int)) po_none))
    (pss_cons (ps_for PassesOwn.never rfl (pi_list (pv 4)) (pg_name (i := 5) nd rfl (Or.inl rfl))
      (pss_one (ps_for PassesOwn.never rfl (pi_list (pe_call GI hr1 rfl mI kI bI .nil pass0 (pa_cons (pv 5) pa_nil))) (pg_name (i := 6) nd rfl (Or.inl rfl))
        (pss_one (ps_if (pt_cmpR (op_notInD hu) (pv 6) (pv 3) rfl) (pss_one (ps_expr (pe_bm PySem.F.plainAttrs_list PySem.F.slot_list_append PySem.F.type_list_append mt_append (pv 3) (pa_cons (pv 6) pa_nil)))) pss_nil)))))
    (pss_cons (ps_set (i := 7) nd rfl (Or.inl rfl) (pe_call GA hr rfl mA kA bA .nil pass0 (pa_cons (pe_callTy call_list_of rfl B.list PyProof.Rows.boot_list (pa_cons (pv 4) pa_nil)) pa_nil)))
    (pss_one (ps_ret (pe_call GS hr1 rfl mS kS bS .nil pass0 (pa_cons (pv 7) (pa_cons (pv 3) pa_nil))))))))))), ?_⟩
  -- things = drawn(script[:12])
  refine ⟨_, rfl, _, rfl, a, _, rfl, hS, fun p hp => ?_⟩
  have s1 := same_new hp (.lst (cutV (ns.map V.int) none (some 12)))
  have ec : cutV (ns.map V.int) none (some 12) = (ns.take 12).map V.int := cut_to ns 12
  refine ⟨p, ns.take 12, rfl, by rw [ec]; exact SqL.of upd_same, by rw [List.length_take]; omega, fun r us ts H1 g1 _ gl ga D => ?_⟩
  have sA := s1.trans g1
  have lu := ga.length
  have lt := D.len
  have l12 : (ns.take 12).length ≤ 12 := by rw [List.length_take]; omega
  have good : ∀ t ∈ ts, t.size ≤ 169 ∧ t.ok = true ∧ t.depth ≤ 15 := fun t ht => by
    obtain ⟨j, ej⟩ := List.mem_iff_getElem?.mp ht
    have hj : j < ts.length := (List.getElem?_eq_some_iff.mp ej).1
    have h1 := D.any j t ej
    have h2 := D.dep j t ej
    exact ⟨by omega, D.ok t ht, by omega⟩
  -- found = parts_of(things[-1])
  obtain ⟨v, av, bv⟩ := at_last us (by omega)
  obtain ⟨t, et, hv⟩ := ga.get bv
  obtain ⟨z1, z2, z3⟩ := good t (List.mem_of_getElem? et)
  have inG : ∀ s ∈ t.inside, s.size ≤ 200 ∧ s.ok = true ∧ s.depth ≤ 50 := fun s hs => by
    have h1 := inside_size t hs
    have h2 := inside_depth t hs
    exact ⟨by omega, inside_ok t z2 hs, by omega⟩
  refine ⟨_, rfl, _, rfl, r, us, _, v, rfl, rfl, SqL.of gl, av, v, t, rfl, hv, by omega, by omega, fun r2 us2 H2 g2 _ h2 a2 => ?_⟩
  -- if not so(found, inside(things[-1]))
  refine ⟨_, rfl, _, rfl, _, rfl, r, us, _, v, rfl, rfl, SqL.of (g2 _ _ gl), av, v, t, rfl, hv.same g2, z2, by omega, by omega, fun r3 us3 H3 g3 _ h3 a3 => ?_⟩
  obtain ⟨y1, y2, y3⟩ := so_ready (ts := t.inside) 0 inG (by rw [inside_len]; omega)
  refine ⟨_, _, _, rfl, (a2.dt h2).same g3, a3.dt h3, y1, y2, y3, fun H4 g4 => ⟨true, rfl, iteF ?_⟩⟩
  have sB := (g2.trans g3).trans g4
  -- due = []; some = things[-3:]
  refine ⟨Nat.zero_le _, fun q1 hq1 => ?_⟩
  have s5 := same_new hq1 (.lst [])
  refine ⟨_, rfl, _, rfl, _, rfl, r, us, rfl, SqL.of (s5 _ _ (sB _ _ gl)), fun m hm => ?_⟩
  have e3 : cutV us (some (-3)) none = us.drop (us.length - 3) := cut_last us 3 (by omega) (by decide)
  rw [e3]
  have s6 := same_new hm (.lst (us.drop (us.length - 3)))
  generalize hk : us.length - 3 = k at *
  have gb := ga.same (sB.trans s5)
  have gd := (gb.same s6).drop k
  have goodS : ∀ t ∈ ts.drop k, t.size ≤ 169 ∧ t.ok = true ∧ t.depth ≤ 15 := fun t ht => good t (List.mem_of_mem_drop ht)
  have lS3 : (ts.drop k).length = 3 := by rw [List.length_drop]; omega
  have lV3 : (us.drop k).length = 3 := by rw [List.length_drop]; omega
  have hsz : ∀ i, sizeL ((ts.drop k).take i) ≤ 507 := fun i => by
    have h1 := sizeL_take (ts.drop k) i
    have h2 := sizeL_bound (ts.drop k) 169 fun t ht => (goodS t ht).1
    rw [lS3] at h2
    omega
  have q6 := s6 _ _ (@upd_same H4 q1 (.lst []))
  have m6 := @upd_same (upd H4 q1 (.lst [])) m (.lst (us.drop k))
  have hqm : q1 ≠ m := ne_of_none upd_same hm
  generalize hH6 : upd (upd H4 q1 (.lst [])) m (.lst (us.drop k)) = H6 at *
  generalize ts.drop k = ss at *
  generalize us.drop k = vs at *
  have sH4 : Same H4 H6 := s5.trans s6
  have inA : ∀ s ∈ insideL ss, s.size ≤ 200 ∧ s.ok = true ∧ s.depth ≤ 50 := fun s hs => by
    rw [insideL_flat, List.mem_flatMap] at hs
    obtain ⟨t, ht, hs⟩ := hs
    obtain ⟨h1, h2, h3⟩ := goodS t ht
    have h4 := inside_size t hs
    have h5 := inside_depth t hs
    exact ⟨by omega, inside_ok t h2 hs, by omega⟩
  -- for thing in some
  refine ⟨_, rfl, m, rfl, ⟨_, SqL.of m6⟩, for_list (K := K) (a := m) (xs := vs) (fun i σ H7 => ∃ (dus : List V) (x5 x6 : Option V), σ = [some (.ref a), some (.ref r), some (.ref r2), some (.ref q1), some (.ref m), x5, x6, none] ∧ (∀ b o, H6 b = some o → b ≠ q1 → H7 b = some o) ∧ H7 q1 = some (.lst dus) ∧ AreTh H7 dus (ddup [] (insideL (ss.take i))))
    ⟨[], _, _, rfl, fun b o e _ => e, q6, by simp only [List.take_zero, insideL, ddup_nil]; exact .nil⟩ (fun i σ H7 _ ⟨_, _, _, _, g, _⟩ => SqL.of (g _ _ m6 (Ne.symm hqm))) ?_ ?_⟩
  · rintro i y σ H7 hi ⟨dus, x5, x6, rfl, g7, d7, a7⟩
    obtain ⟨u, eu, hy⟩ := gd.get hi
    obtain ⟨w1, w2, w3⟩ := goodS u (List.mem_of_getElem? eu)
    have t7 : Tups H6 H7 := fun b xs e => g7 b _ e (ne_of e q6 (by intro z; cases z))
    have hty := insideL_snoc ss i u eu
    have hln := hsz (i + 1)
    -- for part in inside(thing)
    refine ⟨_, rfl, y, u, rfl, hy.tups t7, w2, by omega, by omega, fun r8 us8 H8 g8 n8 h8 a8 => ?_⟩
    refine ⟨r8, rfl, ⟨_, SqL.of h8⟩, ?_⟩
    have hrq : r8 ≠ q1 := fun z => by rw [z, d7] at n8; cases n8
    refine for_list (K := K) (a := r8) (xs := us8) (fun j σ H9 => ∃ (dus : List V) (x6 : Option V), σ = [some (.ref a), some (.ref r), some (.ref r2), some (.ref q1), some (.ref m), some y, x6, none] ∧ (∀ b o, H8 b = some o → b ≠ q1 → H9 b = some o) ∧ H9 q1 = some (.lst dus) ∧ AreTh H9 dus (ddup (ddup [] (insideL (ss.take i))) (u.inside.take j)))
      ⟨dus, _, rfl, fun b o e _ => e, g8 _ _ d7, by simp only [List.take_zero, ddup_nil]; exact a7.same g8⟩ (fun j σ H9 _ ⟨_, _, _, g, _⟩ => SqL.of (g _ _ h8 hrq)) ?_ ?_
    · rintro j x σ H9 hj ⟨dus9, x6', rfl, g9, d9, a9⟩
      obtain ⟨s, es, hx⟩ := a8.get hj
      have hsm : s ∈ insideL ss := by
        rw [insideL_flat, List.mem_flatMap]
        exact ⟨u, List.mem_of_getElem? eu, List.mem_of_getElem? es⟩
      obtain ⟨f1, f2, f3⟩ := inA s hsm
      have t9 : Tups H8 H9 := fun b xs e => g9 b _ e (ne_of e (g8 _ _ d7) (by intro z; cases z))
      have hx9 := hx.tups t9
      have l9 := a9.length
      have ldd : (ddup (ddup [] (insideL (ss.take i))) (u.inside.take j)).length ≤ 507 := by
        have h1 := ddup_len (u.inside.take j) (ddup [] (insideL (ss.take i)))
        have h2 := ddup_len (insideL (ss.take i)) []
        have h3 : (u.inside.take j).length ≤ u.size := by rw [List.length_take, inside_len]; omega
        have h4 := sizeL_snoc ss i u eu
        rw [insideL_len] at h2
        simp at h2
        omega
      have okc : ∀ c ∈ ddup (ddup [] (insideL (ss.take i))) (u.inside.take j), c.ok = true ∧ c.depth ≤ 50 := fun c hc => by
        rw [mem_ddup, mem_ddup] at hc
        have hcm : c ∈ insideL ss := by
          rcases hc with (hc | hc) | hc
          · simp at hc
          · rw [insideL_flat, List.mem_flatMap] at hc ⊢
            obtain ⟨t, ht, hc⟩ := hc
            exact ⟨t, List.mem_of_mem_take ht, hc⟩
          · rw [insideL_flat, List.mem_flatMap]
            exact ⟨u, List.mem_of_getElem? eu, List.mem_of_mem_take hc⟩
        exact ⟨(inA c hcm).2.1, (inA c hcm).2.2⟩
      generalize hcur : ddup (ddup [] (insideL (ss.take i))) (u.inside.take j) = cur at *
      have lay : PyData.canLayAll0 (toDL cur) = true := layL_of cur (by rw [okL_all, List.all_eq_true]; exact fun t ht => (okc t ht).1)
      have dpc := depthL_bound cur 50 fun t ht => (okc t ht).2
      have next : ddup (ddup [] (insideL (ss.take i))) (u.inside.take (j + 1)) = if s ∈ cur then cur else cur ++ [s] := by
        rw [List.take_add_one, es]
        show ddup _ (u.inside.take j ++ [s]) = _
        rw [ddup_snoc, hcur]
      refine ⟨_, rfl, _, rfl, s.toD, toDL cur, hx9.dt, a9.dt d9, lay_of s f2, lay, by rw [depthL_toD, depth_toD]; omega, _, rfl, ?_⟩
      rw [any_mem]
      by_cases hin : s ∈ cur
      · rw [decide_eq_true hin]
        refine iteF ?_
        exact ⟨dus9, _, rfl, g9, d9, by rw [next, if_pos hin]; exact a9⟩
      · rw [decide_eq_false hin]
        refine iteT ?_
        refine ⟨_, rfl, .inl ⟨rfl, _, SqL.of d9⟩, _, rfl, q1, dus9, x, rfl, rfl, d9, by rw [sizeLine_eq]; omega, ?_⟩
        have tu := tups_upd (H := H9) (a := q1) (o := .lst (dus9 ++ [x])) fun xs e => by rw [d9] at e; cases e
        refine ⟨dus9 ++ [x], _, rfl, fun b o e hb => by rw [upd_ne hb]; exact g9 b o e hb, upd_same, ?_⟩
        rw [next, if_neg hin]
        exact (a9.append (.one hx9)).tups tu
    · rintro σ H9 ⟨dus9, x6', rfl, g9, d9, a9⟩
      have e8 : u.inside.take us8.length = u.inside := by rw [a8.length, List.take_length]
      rw [e8] at a9
      refine ⟨dus9, _, _, rfl, fun b o e hb => g9 b o (g8 _ _ (g7 b o e hb)) hb, d9, ?_⟩
      rw [hty, ddup_append]
      exact a9
  · rintro σ H7 ⟨dus, x5, x6, rfl, g7, d7, a7⟩
    have e7 : ss.take vs.length = ss := by rw [gd.length, List.take_length]
    rw [e7] at a7
    have t7 : Tups H6 H7 := fun b xs e => g7 b _ e (ne_of e q6 (by intro z; cases z))
    have m7 := g7 _ _ m6 (Ne.symm hqm)
    -- every = all_things(list(some))
    refine ⟨_, rfl, m, vs, rfl, .inl (SqL.of m7), fun l8 hl8 => ?_⟩
    have s8 := same_new hl8 (.lst vs)
    have hs3 := hsz 3
    rw [show ss.take 3 = ss by rw [← lS3, List.take_length]] at hs3
    refine ⟨l8, vs, ss, rfl, upd_same, (gd.tups t7).same s8, fun t ht => ⟨(goodS t ht).2.1, by have := (goodS t ht).2.2; omega⟩, by omega, fun r9 us9 H9 g9 h9 a9 => ?_⟩
    have ld := ddup_len (insideL ss) []
    rw [insideL_len] at ld
    simp at ld
    obtain ⟨y1, y2, y3⟩ := so_ready (ts := ddup [] (insideL ss)) 0 (fun t ht => by
      rw [mem_ddup] at ht
      rcases ht with ht | ht
      · simp at ht
      · exact inA t ht) (by omega)
    refine ⟨_, rfl, _, rfl, _, _, _, rfl, a9.dt h9, ((a7.dt d7).same s8).same g9, y1, y2, y3, fun H10 _ => q H10⟩
end
end K01

set_option Elab.async false
set_option linter.all false
set_option maxRecDepth 100000
namespace K01
open PySem L2 Sb
theorem all_mk {l : PySem.W.OpenLaw} {w : World} {K : PySem.W.Frag} {h : Heap} {mg : Str → Option Value} {fa C CW fI fA fS f1 f2 f3 f4 fW fB f5 f6 f7 f8 f9 f0 : Addr} (X : K.In h) (G : h.Ns mainGlobals mg) (hfa : mg "law" = some (.ref fa))
    {od1 an1 od2 an2 od3 an3 od4 an4 od5 an5 od6 an6 od7 an7 od8 an8 od9 an9 od0 an0 odW anW odB anB odI anI odA anA odS anS : Option Addr} {tkF tkW tkS : Tok} {sl1 sl2 sl3 sl4 sl5 sl6 sl7 sl8 sl9 sl0 slW slB slI slA slS : Array (Option Value)} {oc1 kV1 dc1 pm1 cd1 ct1 oc2 kV2 dc2 pm2 cd2 ct2 oc3 kV3 dc3 pm3 cd3 ct3 oc4 kV4 dc4 pm4 cd4 ct4 oc5 kV5 dc5 pm5 cd5 ct5 oc6 kV6 dc6 pm6 cd6 ct6 oc7 kV7 dc7 pm7 cd7 ct7 oc8 kV8 dc8 pm8 cd8 ct8 oc9 kV9 dc9 pm9 cd9 ct9 oc0 kV0 dc0 pm0 cd0 ct0 ocW kVW dcW pmW cdW ctW ocB kVB dcB pmB cdB ctB ocI kVI dcI pmI cdI ctI ocA kVA dcA pmA cdA ctA ocS kVS dcS pmS cdS ctS : Value}
    (aC : PySem.W.nsIn K mainGlobals "Places" = some (some (.ref C)))
    (a1 : PySem.W.nsIn K mainGlobals "parts_of" = some (some (.ref f1)))
    (l1 : K.lookup f1 = some ⟨oc1, od1, .func (PySem.W.fnOf "parts_of" "parts_of" (defArgs sParts) (defBody sParts) (defScope sParts) .none kV1 dc1 pm1 an1 cd1 ct1), sl1⟩) (c1 : PySem.W.codeIn K cd1 "parts_of" = true) (k1 : PySem.W.keepIn K (.ref f1) = true)
    (a2 : PySem.W.nsIn K mainGlobals "all_things" = some (some (.ref f2)))
    (l2 : K.lookup f2 = some ⟨oc2, od2, .func (PySem.W.fnOf "all_things" "all_things" (defArgs sAll) (defBody sAll) (defScope sAll) .none kV2 dc2 pm2 an2 cd2 ct2), sl2⟩) (c2 : PySem.W.codeIn K cd2 "all_things" = true) (k2 : PySem.W.keepIn K (.ref f2) = true)
    (a3 : PySem.W.findIn K (.ref C) "__init__" = some (some (.ref f3))) (i3 : PySem.W.isFn K (.ref f3) = true)
    (l3 : K.lookup f3 = some ⟨oc3, od3, .func (PySem.W.fnOf "__init__" "Places.__init__" (defArgs sPlInit) (defBody sPlInit) (defScope sPlInit) .none kV3 dc3 pm3 an3 cd3 ct3), sl3⟩) (c3 : PySem.W.codeIn K cd3 "Places.__init__" = true) (k3 : PySem.W.keepIn K (.ref f3) = true)
    (a4 : PySem.W.findIn K (.ref C) "place_of" = some (some (.ref f4))) (i4 : PySem.W.isFn K (.ref f4) = true)
    (l4 : K.lookup f4 = some ⟨oc4, od4, .func (PySem.W.fnOf "place_of" "Places.place_of" (defArgs sPlaceOf) (defBody sPlaceOf) (defScope sPlaceOf) .none kV4 dc4 pm4 an4 cd4 ct4), sl4⟩) (c4 : PySem.W.codeIn K cd4 "Places.place_of" = true) (k4 : PySem.W.keepIn K (.ref f4) = true)
    (aW : PySem.W.findIn K (.ref CW) "place_within" = some (some (.ref fW))) (iW : PySem.W.isFn K (.ref fW) = true)
    (lW : K.lookup fW = some ⟨ocW, odW, .func (PySem.W.fnOf "place_within" "Walk.place_within" (defArgs sPlaceIn) (defBody sPlaceIn) (defScope sPlaceIn) .none kVW dcW pmW anW cdW ctW), slW⟩) (cW : PySem.W.codeIn K cdW "Walk.place_within" = true) (kW : PySem.W.keepIn K (.ref fW) = true)
    (aB : PySem.W.findIn K (.ref C) "place_by_form" = some (some (.ref fB))) (iB : PySem.W.isFn K (.ref fB) = true)
    (lB : K.lookup fB = some ⟨ocB, odB, .func (PySem.W.fnOf "place_by_form" "Places.place_by_form" (defArgs sByForm) (defBody sByForm) (defScope sByForm) .none kVB dcB pmB anB cdB ctB), slB⟩) (cB : PySem.W.codeIn K cdB "Places.place_by_form" = true) (kB : PySem.W.keepIn K (.ref fB) = true)
    (aCW : PySem.W.nsIn K mainGlobals "Walk" = some (some (.ref CW)))
    (aI : PySem.W.findIn K (.ref CW) "__init__" = some (some (.ref fI))) (iI : PySem.W.isFn K (.ref fI) = true)
    (lI : K.lookup fI = some ⟨ocI, odI, .func (PySem.W.fnOf "__init__" "Walk.__init__" (defArgs sWkInit) (defBody sWkInit) (defScope sWkInit) .none kVI dcI pmI anI cdI ctI), slI⟩) (cI : PySem.W.codeIn K cdI "Walk.__init__" = true) (kI : PySem.W.keepIn K (.ref fI) = true)
    (aA : PySem.W.nsIn K mainGlobals "place_among" = some (some (.ref fA)))
    (lA : K.lookup fA = some ⟨ocA, odA, .func (PySem.W.fnOf "place_among" "place_among" (defArgs sAmong) (defBody sAmong) (defScope sAmong) .none kVA dcA pmA anA cdA ctA), slA⟩) (cA : PySem.W.codeIn K cdA "place_among" = true) (kA : PySem.W.keepIn K (.ref fA) = true)
    (aS : PySem.W.nsIn K mainGlobals "share_of" = some (some (.ref fS)))
    (lS : K.lookup fS = some ⟨ocS, odS, .func (PySem.W.fnOf "share_of" "share_of" (defArgs sShare) (defBody sShare) (defScope sShare) .none kVS dcS pmS anS cdS ctS), slS⟩) (cS : PySem.W.codeIn K cdS "share_of" = true) (kS : PySem.W.keepIn K (.ref fS) = true)
    (pgW : PySem.W.plainGet K CW Str.empty = true) (hdW : PySem.W.hasDictIn K CW = true) (poW : PySem.W.plainOver K CW = true) (saW : PySem.W.findIn K (.ref CW) "__setattr__" = some (some (.builtin "object.__setattr__"))) (mkW : PySem.W.makesIn K CW = true) (kcW : PySem.W.keepIn K (.ref CW) = true)
    (nPW : PySem.W.findIn K (.ref CW) "places" = some none) (nSW : PySem.W.findIn K (.ref CW) "steps" = some none)
    (gF : PySem.W.nsIn K mainGlobals "FEW_PARTS" = some (some (.int 4 tkF))) (gW : PySem.W.nsIn K mainGlobals "WALKS_ANEW" = some (some (.int 1024 tkW))) (gS : PySem.W.nsIn K mainGlobals "STEPS_ANEW" = some (some (.int 40000 tkS)))
    (a5 : PySem.W.nsIn K mainGlobals "top_words" = some (some (.ref f5)))
    (l5 : K.lookup f5 = some ⟨oc5, od5, .func (PySem.W.fnOf "top_words" "top_words" (defArgs sTop) (defBody sTop) (defScope sTop) .none kV5 dc5 pm5 an5 cd5 ct5), sl5⟩) (c5 : PySem.W.codeIn K cd5 "top_words" = true) (k5 : PySem.W.keepIn K (.ref f5) = true)
    (a6 : PySem.W.nsIn K mainGlobals "_law_drawn_things" = some (some (.ref f6)))
    (l6 : K.lookup f6 = some ⟨oc6, od6, .func (PySem.W.fnOf "_law_drawn_things" "_law_drawn_things" (defArgs sDrawn) (defBody sDrawn) (defScope sDrawn) .none kV6 dc6 pm6 an6 cd6 ct6), sl6⟩) (c6 : PySem.W.codeIn K cd6 "_law_drawn_things" = true) (k6 : PySem.W.keepIn K (.ref f6) = true)
    (a7 : PySem.W.nsIn K mainGlobals "_law_inside" = some (some (.ref f7)))
    (l7 : K.lookup f7 = some ⟨oc7, od7, .func (PySem.W.fnOf "_law_inside" "_law_inside" (defArgs sInside) (defBody sInside) (defScope sInside) .none kV7 dc7 pm7 an7 cd7 ct7), sl7⟩) (c7 : PySem.W.codeIn K cd7 "_law_inside" = true) (k7 : PySem.W.keepIn K (.ref f7) = true)
    (a8 : PySem.W.nsIn K mainGlobals "_law_any_word" = some (some (.ref f8)))
    (l8 : K.lookup f8 = some ⟨oc8, od8, .func (PySem.W.fnOf "_law_any_word" "_law_any_word" (defArgs sWord) (defBody sWord) (defScope sWord) .none kV8 dc8 pm8 an8 cd8 ct8), sl8⟩) (c8 : PySem.W.codeIn K cd8 "_law_any_word" = true) (k8 : PySem.W.keepIn K (.ref f8) = true)
    (a9 : PySem.W.nsIn K mainGlobals "_law_so" = some (some (.ref f9)))
    (l9 : K.lookup f9 = some ⟨oc9, od9, .func (PySem.W.fnOf "_law_so" "_law_so" (defArgs sSo) (defBody sSo) (defScope sSo) .none kV9 dc9 pm9 an9 cd9 ct9), sl9⟩) (c9 : PySem.W.codeIn K cd9 "_law_so" = true) (k9 : PySem.W.keepIn K (.ref f9) = true)
    (a0 : PySem.W.nsIn K mainGlobals "law" = some (some (.ref f0)))
    (l0 : K.lookup f0 = some ⟨oc0, od0, .func (PySem.W.fnOf "law" "law" (defArgs sLaw) (defBody sLaw) (defScope sLaw) .none kV0 dc0 pm0 an0 cd0 ct0), sl0⟩) (c0 : PySem.W.codeIn K cd0 "law" = true) (k0 : PySem.W.keepIn K (.ref f0) = true)
    (pg : PySem.W.plainGet K C Str.empty = true) (hd : PySem.W.hasDictIn K C = true) (po : PySem.W.plainOver K C = true) (sa : PySem.W.findIn K (.ref C) "__setattr__" = some (some (.builtin "object.__setattr__"))) (mk : PySem.W.makesIn K C = true) (kc : PySem.W.keepIn K (.ref C) = true)
    (nT : PySem.W.findIn K (.ref C) "things" = some none) (nF : PySem.W.findIn K (.ref C) "forms" = some none) (nN : PySem.W.findIn K (.ref C) "known" = some none)
    (z0 : PySem.W.nsIn K mainGlobals "len" = some none)
    (z1 : PySem.W.nsIn K mainGlobals "min" = some none)
    (z2 : PySem.W.nsIn K mainGlobals "abs" = some none)
    (z3 : PySem.W.nsIn K mainGlobals "list" = some none)
    (z4 : PySem.W.nsIn K mainGlobals "tuple" = some none)
    (z5 : PySem.W.nsIn K mainGlobals "str" = some none)
    (z6 : PySem.W.nsIn K mainGlobals "bool" = some none)
    (z7 : PySem.W.nsIn K mainGlobals "int" = some none)
    (z8 : PySem.W.nsIn K mainGlobals "isinstance" = some none)
    (z9 : PySem.W.nsIn K mainGlobals "range" = some none)
    (z10 : PySem.W.nsIn K mainGlobals "reversed" = some none)
    (z11 : PySem.W.nsIn K mainGlobals "enumerate" = some none)
    (z12 : PySem.W.nsIn K mainGlobals "zip" = some none)
    (z13 : PySem.W.nsIn K mainGlobals "sorted" = some none) :
    ∃ fd : FuncData, (∀ (s : Shared) (v : Value), BindsTo s fd ⟨[v], []⟩ [("_law_script", v)]) ∧ ∀ base : Heap, K.In base → base.Ns mainGlobals mg → FnOk l.prog w K mg base CX0 54 fa fd ["_law_script"] (spLaw K) := by
  have e := hfa.symm.trans (PySem.W.mg_of X G a0)
  cases e
  have T : TxtP K mg C := ⟨⟨pg, hd, po, sa⟩, nT, nF, nN, PySem.W.mg_of X G aC⟩
  have B : Blt mg := ⟨PySem.W.mg_none_of X G z0, PySem.W.mg_none_of X G z1, PySem.W.mg_none_of X G z2, PySem.W.mg_none_of X G z3, PySem.W.mg_none_of X G z4, PySem.W.mg_none_of X G z5, PySem.W.mg_none_of X G z6, PySem.W.mg_none_of X G z7, PySem.W.mg_none_of X G z8, PySem.W.mg_none_of X G z9, PySem.W.mg_none_of X G z10⟩
  have BP : BltP mg := ⟨PySem.W.mg_none_of X G z0, PySem.W.mg_none_of X G z3, PySem.W.mg_none_of X G z4, PySem.W.mg_none_of X G z9, PySem.W.mg_none_of X G z10, PySem.W.mg_none_of X G z11, PySem.W.mg_none_of X G z12, PySem.W.mg_none_of X G z13⟩
  have F1 := fun_mk (st := sParts) l1 c1 k1
  have b1 := F1.binds (ps := ["thing"]) fun _ _ _ _ _ _ us hl => match us, hl with | [_], _ => rfl
  have F2 := fun_mk (st := sAll) l2 c2 k2
  have b2 := F2.binds (ps := ["things"]) fun _ _ _ _ _ _ us hl => match us, hl with | [_], _ => rfl
  have F3 := fun_mk (st := sPlInit) l3 c3 k3
  have b3 := F3.binds (ps := ["self"]) fun _ _ _ _ _ _ us hl => match us, hl with | [_], _ => rfl
  have F4 := fun_mk (st := sPlaceOf) l4 c4 k4
  have b4 := F4.binds (ps := ["self", "thing"]) fun _ _ _ _ _ _ us hl => match us, hl with | [_, _], _ => rfl
  have FW := fun_mk (st := sPlaceIn) lW cW kW
  have bW := FW.binds (ps := ["self", "thing", "near", "spare"]) fun _ _ _ _ _ _ us hl => match us, hl with | [_, _, _, _], _ => rfl
  have FI := fun_mk (st := sWkInit) lI cI kI
  have bI := FI.binds (ps := ["self", "places"]) fun _ _ _ _ _ _ us hl => match us, hl with | [_, _], _ => rfl
  have FA := fun_mk (st := sAmong) lA cA kA
  have bA := FA.binds (ps := ["met", "thing"]) fun _ _ _ _ _ _ us hl => match us, hl with | [_, _], _ => rfl
  have FS := fun_mk (st := sShare) lS cS kS
  have bS := FS.binds (ps := ["spare", "inner"]) fun _ _ _ _ _ _ us hl => match us, hl with | [_, _], _ => rfl
  have TW : TxtW K mg CW := ⟨⟨pgW, hdW, poW, saW⟩, nPW, nSW, PySem.W.mg_of X G aCW, ⟨_, PySem.W.mg_of X G gF, ⟨_, rfl⟩⟩, ⟨_, PySem.W.mg_of X G gW, ⟨_, rfl⟩⟩, ⟨_, PySem.W.mg_of X G gS, ⟨_, rfl⟩⟩⟩
  have FB := fun_mk (st := sByForm) lB cB kB
  have bB := FB.binds (ps := ["self", "thing", "form"]) fun _ _ _ _ _ _ us hl => match us, hl with | [_, _, _], _ => rfl
  have F5 := fun_mk (st := sTop) l5 c5 k5
  have b5 := F5.binds (ps := ["thing"]) fun _ _ _ _ _ _ us hl => match us, hl with | [_], _ => rfl
  have F6 := fun_mk (st := sDrawn) l6 c6 k6
  have b6 := F6.binds (ps := ["_law_cells"]) fun _ _ _ _ _ _ us hl => match us, hl with | [_], _ => rfl
  have F7 := fun_mk (st := sInside) l7 c7 k7
  have b7 := F7.binds (ps := ["_law_thing"]) fun _ _ _ _ _ _ us hl => match us, hl with | [_], _ => rfl
  have F8 := fun_mk (st := sWord) l8 c8 k8
  have b8 := F8.binds (ps := ["_law_cell"]) fun _ _ _ _ _ _ us hl => match us, hl with | [_], _ => rfl
  have F9 := fun_mk (st := sSo) l9 c9 k9
  have b9 := F9.binds (ps := ["_law_found", "_law_due"]) fun _ _ _ _ _ _ us hl => match us, hl with | [_, _], _ => rfl
  have F0 := fun_mk (st := sLaw) l0 c0 k0
  refine ⟨PySem.W.fnOf "law" "law" (defArgs sLaw) (defBody sLaw) (defScope sLaw) .none kV0 dc0 pm0 an0 cd0 ct0, fun s v => .of_eq rfl, fun base _ _ => ?_⟩
  have g := fun {x : Str} {f : Addr} (e : PySem.W.nsIn K mainGlobals x = some (some (.ref f))) => PySem.W.mg_of X G e
  have mP : Meth K C "place_of" f4 := ⟨a4, i4, k4⟩
  have GT := ok_top (P := l.prog) (w := w) (base := base) F5 BP
  have GB := ok_byForm (P := l.prog) (w := w) (base := base) FB T BP
  have mW : Meth K CW "place_within" fW := ⟨aW, iW, kW⟩
  have mB : Meth K C "place_by_form" fB := ⟨aB, iB, kB⟩
  have GW' := within_all (P := l.prog) (w := w) (base := base) FW T TW BP mW bW GT k5 b5 (g a5) (ok_among FA BP) kA bA (g aA) (ok_share FS) kS bS (g aS) mB GB bB 50
  have GPl := ok_placeOf F4 TW ⟨mkW, aI, iI, kcW⟩ (ok_wkInit FI TW) bI mW bW GW'
  have GIn := ok_plInit (P := l.prog) (w := w) (base := base) F3 T
  have GA := ok_all F2 T ⟨mk, a3, i3, kc⟩ GIn b3 mP GPl b4
  have GPa := parts_all (P := l.prog) (w := w) (base := base) F1 b1 (g a1) 50
  have GW := ok_word (P := l.prog) (w := w) (base := base) F8 B.abs
  have GD := ok_drawn F6 B GW k8 b8 (g a8)
  have GI := ok_inside (P := l.prog) (w := w) (base := base) F7 B.reversed
  have GS := ok_so (P := l.prog) (w := w) (base := base) F9 B
  exact ok_law F0 B GD k6 b6 (g a6) GI k7 b7 (g a7) GS k9 b9 (g a9) GPa k1 b1 (g a1) GA k2 b2 (g a2)
theorem walk {l : PySem.W.OpenLaw} {q : Program} {loose : List Str} {XP : (Str → Option Value) → Heap → Prop} {YP : World → Heap → Prop} {d : DefRec} {K : Params → PySem.W.Frag} (hn : l.most = some 63) (hdf : d.params.defaults = [])
    (hY : ∀ (w : World) (h : Heap), YP w h → (K w.params).In h)
    (F : ∀ (w : World) (mg : Str → Option Value) (fa : Addr) (h : Heap), (K w.params).In h → h.Ns mainGlobals mg → mg d.name = some (.ref fa) →
      ∃ fd : FuncData, (∀ (s : Shared) (u : Value), BindsTo s fd ⟨[u], []⟩ [("_law_script", u)]) ∧ ∀ base : Heap, (K w.params).In base → base.Ns mainGlobals mg → FnOk l.prog w (K w.params) mg base CX0 54 fa fd ["_law_script"] (spLaw (K w.params))) :
    PySem.W.WalkO q loose XP YP l.row.toRowW d [] (fun f vs => PySem.call f vs) :=
  L2.walk_of (n := 63) (k := 54) (x := "_law_script") (CX := fun _ => CX0) (sp := fun w => spLaw (K w.params)) hn (by decide) hdf ⟨rfl, by decide, by decide⟩ hY F (fun _ _ a ns hl _ hS => ⟨a, ns, rfl, hS, hl, fun _ => rfl⟩) fun _ _ _ _ _ z => z
end K01
open PySem PySem.W PyProof.Rows
set_option maxRecDepth 100000 in
set_option maxHeartbeats 0 in
theorem PySem.Challenge.cw_samebook_k01_things_in_things_holds : PySem.Challenge.rw_samebook_k01_things_in_things.Holds := by
  w_on; o_law; k_head; (case hw => w_witness2)
  k_fill
  refine K01.walk (l := PySem.Challenge.rw_samebook_k01_things_in_things) rfl rfl (fun w h Y => PySem.W.kIn_of Y) ?F
  case F =>
    intro w mg fa h KX G hmg
    refine' K01.all_mk KX G hmg ?aC ?a1 ?l1 ?c1 ?k1 ?a2 ?l2 ?c2 ?k2 ?a3 ?i3 ?l3 ?c3 ?k3 ?a4 ?i4 ?l4 ?c4 ?k4 ?aW ?iW ?lW ?cW ?kW ?aB ?iB ?lB ?cB ?kB ?aCW ?aI ?iI ?lI ?cI ?kI ?aA ?lA ?cA ?kA ?aS ?lS ?cS ?kS ?pgW ?hdW ?poW ?saW ?mkW ?kcW ?nPW ?nSW ?gF ?gW ?gS ?a5 ?l5 ?c5 ?k5 ?a6 ?l6 ?c6 ?k6 ?a7 ?l7 ?c7 ?k7 ?a8 ?l8 ?c8 ?k8 ?a9 ?l9 ?c9 ?k9 ?a0 ?l0 ?c0 ?k0 ?pg ?hd ?po ?sa ?mk ?kc ?nT ?nF ?nN ?z0 ?z1 ?z2 ?z3 ?z4 ?z5 ?z6 ?z7 ?z8 ?z9 ?z10 ?z11 ?z12 ?z13
    (case aC => k_is)
    (case aCW => k_is)
    (case a1 => k_is)
    (case l1 => k_is)
    (case c1 => k_is)
    (case k1 => k_is)
    (case a2 => k_is)
    (case l2 => k_is)
    (case c2 => k_is)
    (case k2 => k_is)
    (case a3 => k_is)
    (case i3 => k_is)
    (case l3 => k_is)
    (case c3 => k_is)
    (case k3 => k_is)
    (case a4 => k_is)
    (case i4 => k_is)
    (case l4 => k_is)
    (case c4 => k_is)
    (case k4 => k_is)
    (case aW => k_is)
    (case iW => k_is)
    (case lW => k_is)
    (case cW => k_is)
    (case kW => k_is)
    (case aB => k_is)
    (case iB => k_is)
    (case lB => k_is)
    (case cB => k_is)
    (case kB => k_is)
    (case aI => k_is)
    (case iI => k_is)
    (case lI => k_is)
    (case cI => k_is)
    (case kI => k_is)
    (case aA => k_is)
    (case lA => k_is)
    (case cA => k_is)
    (case kA => k_is)
    (case aS => k_is)
    (case lS => k_is)
    (case cS => k_is)
    (case kS => k_is)
    (case pgW => k_is)
    (case hdW => k_is)
    (case poW => k_is)
    (case saW => k_is)
    (case mkW => k_is)
    (case kcW => k_is)
    (case nPW => k_is)
    (case nSW => k_is)
    (case gF => k_is)
    (case gW => k_is)
    (case gS => k_is)
    (case a5 => k_is)
    (case l5 => k_is)
    (case c5 => k_is)
    (case k5 => k_is)
    (case a6 => k_is)
    (case l6 => k_is)
    (case c6 => k_is)
    (case k6 => k_is)
    (case a7 => k_is)
    (case l7 => k_is)
    (case c7 => k_is)
    (case k7 => k_is)
    (case a8 => k_is)
    (case l8 => k_is)
    (case c8 => k_is)
    (case k8 => k_is)
    (case a9 => k_is)
    (case l9 => k_is)
    (case c9 => k_is)
    (case k9 => k_is)
    (case a0 => k_is)
    (case l0 => k_is)
    (case c0 => k_is)
    (case k0 => k_is)
    (case pg => k_is)
    (case hd => k_is)
    (case po => k_is)
    (case sa => k_is)
    (case mk => k_is)
    (case kc => k_is)
    (case nT => k_is)
    (case nF => k_is)
    (case nN => k_is)
    (case z0 => k_is)
    (case z1 => k_is)
    (case z2 => k_is)
    (case z3 => k_is)
    (case z4 => k_is)
    (case z5 => k_is)
    (case z6 => k_is)
    (case z7 => k_is)
    (case z8 => k_is)
    (case z9 => k_is)
    (case z10 => k_is)
    (case z11 => k_is)
    (case z12 => k_is)
    (case z13 => k_is)


import PyProof.Rows.All
import Wide.All
import OpenK.AllK
import Wide.FinOn
import Lean
import PyProof.EqAt
import PyProof.EqKinds
import PyProof.TupleCall
import PySem.Challenge.RW_twoorders_k01_an_order

set_option Elab.async false
set_option linter.all false
set_option maxRecDepth 100000
/-! THE HAND LAYER, for ints, bools, texts, own classes, LISTS and tuples (index, slices, in, append, pop ..), calls, loops. Paste it whole ahead of your own text; what your proof does not reach may be deleted. -/
namespace L2
open PySem PySem.Spec PyProof.Rows

/-- a key: an int or a str -/
abbrev Key := Sum Int Str
def keyIs : Key → Value → Bool
  | .inl k, v => Value.isInt k v
  | .inr x, v => Value.isStrOf x v
def keyH (w : World) : Key → Int
  | .inl k => hashInt k
  | .inr x => hashStr w x
theorem keyIs_shape : ∀ {k : Key} {v : Value}, keyIs k v = true → (∃ i t, k = Sum.inl i ∧ v = Value.int i t) ∨ (∃ x t, k = Sum.inr x ∧ v = Value.str x t)
  | .inl i, v, h => by
    obtain ⟨t, e⟩ := Value.isInt_shape (k := i) (v := v) h
    exact .inl ⟨i, t, rfl, e⟩
  | .inr x, v, h => by
    obtain ⟨t, e⟩ := Value.isStrOf_shape (x := x) (v := v) h
    exact .inr ⟨x, t, rfl, e⟩
theorem keyIs_int (i : Int) (t : Tok) : keyIs (.inl i) (.int i t) = true := by simp [keyIs, Value.isInt]
theorem keyIs_str (x : Str) (t : Tok) : keyIs (.inr x) (.str x t) = true := by simp [keyIs, Value.isStrOf]
theorem key_ll (a b : Int) : decide ((Sum.inl a : Key) = Sum.inl b) = (a == b) := by
  by_cases e : a = b
  · subst e; simp
  · have h : ¬ (Sum.inl a : Key) = Sum.inl b := fun q => e (Sum.inl.inj q)
    rw [decide_eq_false h]
    exact (beq_eq_false_iff_ne.mpr e).symm
theorem key_rr (a b : Str) : decide ((Sum.inr a : Key) = Sum.inr b) = decide (a = b) := by
  by_cases e : a = b
  · subst e; simp
  · have h : ¬ (Sum.inr a : Key) = Sum.inr b := fun q => e (Sum.inr.inj q)
    rw [decide_eq_false h, decide_eq_false e]
theorem key_lr (a : Int) (b : Str) : decide ((Sum.inl a : Key) = Sum.inr b) = false := decide_eq_false (fun q => nomatch q)
theorem key_rl (a : Str) (b : Int) : decide ((Sum.inr a : Key) = Sum.inl b) = false := decide_eq_false (fun q => nomatch q)

def mixKind (prog : Program) (w : World) : PySem.KeyKind prog w Key where
  is := keyIs
  hash := keyH w
  inj := fun v a b ha hb => by
    rcases keyIs_shape ha with ⟨i, t, rfl, rfl⟩ | ⟨x, t, rfl, rfl⟩
    · rcases keyIs_shape hb with ⟨j, u, rfl, e⟩ | ⟨y, u, rfl, e⟩
      · injection e with e1 _; rw [e1]
      · exact nomatch e
    · rcases keyIs_shape hb with ⟨j, u, rfl, e⟩ | ⟨y, u, rfl, e⟩
      · exact nomatch e
      · injection e with e1 _; rw [e1]
  byValue := fun k v h => by
    rcases keyIs_shape h with ⟨i, t, rfl, rfl⟩ | ⟨x, t, rfl, rfl⟩ <;> rfl
  pyHash := fun hv h => by
    rcases keyIs_shape hv with ⟨i, t, rfl, rfl⟩ | ⟨x, t, rfl, rfl⟩
    · exact wpAny_pyHash_int h
    · exact wpAny_pyHash_str h
  eqBool := fun hu hv h => by
    rcases keyIs_shape hu with ⟨i, t, rfl, rfl⟩ | ⟨x, t, rfl, rfl⟩
    · rcases keyIs_shape hv with ⟨j, u, rfl, rfl⟩ | ⟨y, u, rfl, rfl⟩
      · rw [key_ll] at h; exact wpAny_eqBool_int h
      · rw [key_lr] at h; exact SeqAt.EqAt.int_str i t y u _ _ _ _ h
    · rcases keyIs_shape hv with ⟨j, u, rfl, rfl⟩ | ⟨y, u, rfl, rfl⟩
      · rw [key_rl] at h; exact SeqAt.EqAt.str_int x t j u _ _ _ _ h
      · rw [key_rr] at h; exact wpAny_eqBool_str h
  «strs» := fun k x t v h => by
    rcases keyIs_shape h with ⟨i, u, rfl, e⟩ | ⟨y, u, rfl, e⟩
    · exact nomatch e
    · injection e with e1 _
      subst e1
      cases v <;> rfl

theorem mixKind_is (prog : Program) (w : World) (k : Key) (v : Value) : (mixKind prog w).is k v = keyIs k v := rfl
theorem mixKind_int (prog : Program) (w : World) (i : Int) (t : Tok) : (mixKind prog w).is (.inl i) (.int i t) = true := keyIs_int i t
theorem mixKind_str (prog : Program) (w : World) (x : Str) (t : Tok) : (mixKind prog w).is (.inr x) (.str x t) = true := keyIs_str x t
end L2

namespace L2
open PySem PySem.Spec PyProof.Rows

/-- a value, without the heap -/
inductive V where
  | non | bl (b : Bool) | int (i : Int) | str (x : Str) | byt (b : Array UInt8) | flt (b : UInt64) | ref (a : Addr) | ty (n : String)
  deriving DecidableEq

def RelV : V → Value → Prop
  | .non, u => u = Value.none
  | .bl b, u => u = Value.bool b
  | .int i, u => ∃ t, u = Value.int i t
  | .str x, u => ∃ t, u = Value.str x t
  | .byt b, u => ∃ t, u = Value.bytes b t
  | .flt b, u => ∃ t, u = Value.float b t
  | .ref a, u => u = Value.ref a
  | .ty n, u => u = Value.type n

abbrev Vals : List V → List Value → Prop := Paired RelV
theorem Vals.length {xs : List V} {us : List Value} (r : Vals xs us) : xs.length = us.length := Paired.length r
theorem Vals.get : ∀ {xs : List V} {us : List Value} {i : Nat} {x : V}, Vals xs us → xs[i]? = some x → ∃ u, us[i]? = some u ∧ RelV x u
  | _, _, _, _, .nil, e => by simp at e
  | _, _, 0, _, .cons r _, e => by simp at e; subst e; exact ⟨_, rfl, r⟩
  | _, _, i + 1, x, .cons _ t, e => by
    obtain ⟨u, h1, h2⟩ := Vals.get (i := i) (x := x) t (by simpa using e)
    exact ⟨u, by simpa using h1, h2⟩
theorem Vals.set {x : V} {u : Value} (r : RelV x u) : ∀ {xs : List V} {us : List Value} (i : Nat), Vals xs us → Vals (xs.set i x) (us.set i u)
  | _, _, _, .nil => .nil
  | _, _, 0, .cons _ t => .cons r t
  | _, _, i + 1, .cons q t => .cons q (Vals.set r i t)
theorem Vals.append : ∀ {xs ys : List V} {us ws : List Value}, Vals xs us → Vals ys ws → Vals (xs ++ ys) (us ++ ws)
  | _, _, _, _, .nil, s => s
  | _, _, _, _, .cons r t, s => .cons r (Vals.append t s)
theorem Vals.take : ∀ {xs : List V} {us : List Value} (n : Nat), Vals xs us → Vals (xs.take n) (us.take n)
  | _, _, 0, _ => .nil
  | _, _, _ + 1, .nil => .nil
  | _, _, n + 1, .cons r t => .cons r (Vals.take n t)
theorem Vals.drop : ∀ {xs : List V} {us : List Value} (n : Nat), Vals xs us → Vals (xs.drop n) (us.drop n)
  | _, _, 0, r => r
  | _, _, _ + 1, .nil => .nil
  | _, _, n + 1, .cons _ t => Vals.drop n t
theorem Vals.none_of : ∀ {xs : List V} {us : List Value} {i : Nat}, Vals xs us → xs[i]? = none → us[i]? = none := fun {xs us i} r e => by
  have h1 := r.length
  have h2 : xs.length ≤ i := List.getElem?_eq_none_iff.mp e
  exact List.getElem?_eq_none_iff.mpr (by omega)

def RelO : Option V → Option Value → Prop
  | some v, some u => RelV v u
  | none, none => True
  | _, _ => False
def KV {κ : Type} : List (κ × V) → List (κ × Value) → Prop := Paired fun (p : κ × V) (q : κ × Value) => p.1 = q.1 ∧ RelV p.2 q.2

/-- a key of a dict (00_mix): an int or a text -/
def kV : Key → V
  | .inl i => .int i
  | .inr x => .str x

/-- what stands at a tracked address -/
inductive HO where
  /-- a list -/
  | lst (xs : List V)
  /-- a tuple (never changes) -/
  | tup (xs : List V)
  /-- a dict whose keys are ints and texts; one whose keys are tuples of ints and texts (the empty one is both) -/
  | dK (kvs : List (Key × V)) | dT (kvs : List (List Key × V))
  /-- a set of ints: its members, its size -/
  | set (S : Int → Bool) (n : Nat)
  /-- an instance of the class at C, its dict at dx, its attributes -/
  | ins (C dx : Addr) (fs : List (Str × V))
  /-- the dict of the instance at x -/
  | own (x : Addr)
  /-- the dict of an exception -/
  | xd (fs : List (Str × V))
  /-- a bound method, f of x -/
  | met (f x : Addr)
  /-- a range object lo, lo + 1, .. below hi -/
  | rng (lo hi : Int)
  /-- a thing that is known to the object (the script; a dict while a loop walks it): read, never written while it is so -/
  | frz (o : Obj) (u : HO)
  /-- a code object's table -/
  | tbl (ps : Array Value)
  /-- any other thing, by what is true of its one object (a def of one's own: SetO a S n := HO.ext fun h => ..) -/
  | ext (φ : Heap → Prop)

abbrev Hp := Addr → Option HO
def upd (H : Hp) (a : Addr) (o : HO) : Hp := fun b => if b = a then some o else H b
theorem upd_same {H : Hp} {a : Addr} {o : HO} : upd H a o a = some o := by unfold upd; rw [if_pos rfl]
theorem upd_ne {H : Hp} {a b : Addr} {o : HO} (h : b ≠ a) : upd H a o b = H b := by unfold upd; rw [if_neg h]
theorem upd_upd {H : Hp} {a : Addr} {o u : HO} : upd (upd H a o) a u = upd H a u := by
  funext b; unfold upd; split <;> rfl
/-- two objects of different content stand apart -/
theorem ne_of {H : Hp} {a b : Addr} {o u : HO} (h : H a = some o) (h' : H b = some u) (d : o ≠ u) : a ≠ b := by
  intro e; subst e; rw [h] at h'; exact d (Option.some.inj h')
theorem ne_of_none {H : Hp} {a b : Addr} {o : HO} (h : H a = some o) (h' : H b = none) : a ≠ b := by
  intro e; subst e; rw [h] at h'; cases h'

section
variable (P : Program) (w : World)
def ObjOk (H : Hp) (h : Heap) (a : Addr) : HO → Prop
  | .lst xs => xs.length ≤ sizeLine ∧ ∃ (its : List Value) (n : Nat), Vals xs its ∧ h.get? a = some { cls := .type "list", data := .seq its.toArray n }
  | .tup xs => xs.length ≤ sizeLine ∧ ∃ its : List Value, Vals xs its ∧ IsTup h a its.toArray
  | .dK kvs => kvs.length ≤ sizeLine ∧ (a == sysModules) = false ∧ ∃ vs, KV kvs vs ∧ h.DictOf (mixKind P w) a vs
  | .dT kvs => kvs.length ≤ sizeLine ∧ (a == sysModules) = false ∧ ∃ xs : List (List Key × Addr × Value),
      Paired (fun (p : List Key × V) (q : List Key × Addr × Value) => p.1 = q.1 ∧ H q.2.1 = some (.tup (p.1.map kV)) ∧ RelV p.2 q.2.2) kvs xs ∧
      ∃ o es ep, h.get? a = some o ∧ o.ExactDict ∧ o.data = .dict es ep ∧ es.toList = xs.map (entryOfKey (tupleKind (mixKind P w))) ∧ (xs.map (·.1)).Nodup
  | .set S n => h.SetOf (intKind P w) a S n
  | .ins C dx fs => H dx = some (.own a) ∧ fs.length ≤ 1000 ∧ dx ≠ a ∧ h.get? a = some (PySem.W.instObj C dx) ∧
      ∃ mA, h.Ns1 dx mA ∧ (∀ f, RelO (fs.lookup f) (mA f)) ∧ PySem.Within mA (fs.map (·.1))
  | .own _ => ∃ o, h.get? a = some o
  | .xd fs => ∃ mA, h.Ns1 a mA ∧ ∀ f, RelO (fs.lookup f) (mA f)
  | .rng lo hi => ∃ t u v, h.get? a = some { cls := .type "range", data := .fields #[.int lo t, .int hi u, .int 1 v] }
  | .frz o u => h.get? a = some o ∧ ObjOk H h a u
  | .tbl ps => h.get? a = some { cls := .none, data := .fields ps }
  | .met f x => h.get? a = some (PySem.W.methodObj (.ref f) (.ref x))
  | .ext φ => φ h ∧ (∃ o, h.get? a = some o) ∧ ∀ h1 h2 : Heap, φ h1 → (∀ o, h1.get? a = some o → h2.get? a = some o) → φ h2
/-- the abstract heap is held -/
def HOk (H : Hp) (h : Heap) : Prop := ∀ a o, H a = some o → ObjOk P w H h a o
end

section
variable {P : Program} {w : World} {H H' : Hp} {h h' : Heap} {a : Addr} {o : HO}
theorem ObjOk.lt (x : ObjOk P w H h a o) : a < h.objs.size := by
  cases o with
  | lst xs => obtain ⟨_, _, _, _, e⟩ := x; exact Heap.lt_size e
  | tup xs => obtain ⟨_, _, _, p⟩ := x; exact p.lt
  | dK kvs => obtain ⟨_, _, _, _, o, _, _, e, _⟩ := x; exact Heap.lt_size e
  | dT kvs => obtain ⟨_, _, _, _, o, _, _, e, _⟩ := x; exact Heap.lt_size e
  | set S n => obtain ⟨o, _, _, _, e, _⟩ := x; exact Heap.lt_size e
  | ins C dx fs => obtain ⟨_, _, _, e, _⟩ := x; exact Heap.lt_size e
  | own y => obtain ⟨_, e⟩ := x; exact Heap.lt_size e
  | xd fs => obtain ⟨_, ⟨_, _, _, e, _⟩, _⟩ := x; exact Heap.lt_size e
  | rng lo hi => obtain ⟨_, _, _, e⟩ := x; exact Heap.lt_size e
  | frz ob u => obtain ⟨e, _⟩ := x; exact Heap.lt_size e
  | tbl ps => exact Heap.lt_size (show h.get? a = some _ from x)
  | met f y => exact Heap.lt_size (show h.get? a = some _ from x)
  | ext φ => obtain ⟨_, ⟨_, e⟩, _⟩ := x; exact Heap.lt_size e
theorem Paired.mapP {α β : Type} {F G : α → β → Prop} : ∀ {l₁ : List α} {l₂ : List β}, Paired F l₁ l₂ → (∀ a b, F a b → G a b) → Paired G l₁ l₂
  | _, _, .nil, _ => .nil
  | _, _, .cons r t, f => .cons (f _ _ r) (Paired.mapP t f)
theorem Paired.imp' {α β : Type} {F G : α → β → Prop} (f : ∀ a b, F a b → G a b) {l₁ : List α} {l₂ : List β} (r : Paired F l₁ l₂) : Paired G l₁ l₂ := Paired.mapP r f
/-- what an object's description leans on: its own object, its own dict, the tuples -/
theorem ObjOk.stay (x : ObjOk P w H h a o) (k : ∀ b u, (b = a ∨ H b = some (.own a)) → h.get? b = some u → h'.get? b = some u)
    (ho : ∀ b, H b = some (.own a) → H' b = some (.own a)) (ht : ∀ b xs, H b = some (.tup xs) → H' b = some (.tup xs)) : ObjOk P w H' h' a o := by
  induction o with
  | lst xs => obtain ⟨z, its, n, r, e⟩ := x; exact ⟨z, its, n, r, k _ _ (.inl rfl) e⟩
  | tup xs => obtain ⟨z, its, r, ob, e, c⟩ := x; exact ⟨z, its, r, ob, k _ _ (.inl rfl) e, c⟩
  | dK kvs => obtain ⟨z, y, vs, r, ob, es, ep, e, c⟩ := x; exact ⟨z, y, vs, r, ob, es, ep, k _ _ (.inl rfl) e, c⟩
  | dT kvs =>
    obtain ⟨z, y, xs, r, ob, es, ep, e, c⟩ := x
    exact ⟨z, y, xs, Paired.mapP r fun p q z => ⟨z.1, ht _ _ z.2.1, z.2.2⟩, ob, es, ep, k _ _ (.inl rfl) e, c⟩
  | set S n => obtain ⟨ob, es, ep, t, e, c⟩ := x; exact ⟨ob, es, ep, t, k _ _ (.inl rfl) e, c⟩
  | ins C dx fs =>
    obtain ⟨d, z, ne, e, mA, ⟨od, es, ep, e2, c⟩, r⟩ := x
    exact ⟨ho _ d, z, ne, k _ _ (.inl rfl) e, mA, ⟨od, es, ep, k _ _ (.inr d) e2, c⟩, r⟩
  | own y => obtain ⟨ob, e⟩ := x; exact ⟨ob, k _ _ (.inl rfl) e⟩
  | xd fs => obtain ⟨mA, ⟨od, es, ep, e, c⟩, r⟩ := x; exact ⟨mA, ⟨od, es, ep, k _ _ (.inl rfl) e, c⟩, r⟩
  | rng lo hi => obtain ⟨t, u, v, e⟩ := x; exact ⟨t, u, v, k _ _ (.inl rfl) e⟩
  | frz ob u ih => obtain ⟨e, q⟩ := x; exact ⟨k _ _ (.inl rfl) e, ih q⟩
  | tbl ps =>
    have e : h.get? a = some { cls := .none, data := .fields ps } := x
    show h'.get? a = some { cls := .none, data := .fields ps }
    exact k a _ (.inl rfl) e
  | met f y =>
    have e : h.get? a = some (PySem.W.methodObj (.ref f) (.ref y)) := x
    show h'.get? a = some (PySem.W.methodObj (.ref f) (.ref y))
    exact k a _ (.inl rfl) e
  | ext φ => obtain ⟨p, ⟨o, e⟩, st⟩ := x; exact ⟨st _ _ p fun o q => k _ _ (.inl rfl) q, ⟨o, k _ _ (.inl rfl) e⟩, st⟩
theorem HOk.lt (x : HOk P w H h) (e : H a = some o) : a < h.objs.size := (x a o e).lt
theorem HOk.fresh (x : HOk P w H h) (e : h.objs.size ≤ a) : H a = none := by
  cases q : H a with
  | none => rfl
  | some u => exact absurd (Nat.lt_of_lt_of_le (x.lt q) e) (Nat.lt_irrefl _)
/-- every object of the heap is kept -/
theorem HOk.kept (x : HOk P w H h) (k : ∀ b u, h.get? b = some u → h'.get? b = some u) : HOk P w H h' := fun a o e =>
  (x a o e).stay (fun b u _ q => k b u q) (fun _ q => q) fun _ _ q => q
/-- a new object is laid and tracked -/
theorem HOk.laid (x : HOk P w H h) (k : ∀ b u, h.get? b = some u → h'.get? b = some u) (hp : h.objs.size ≤ a) (new : ObjOk P w (upd H a o) h' a o) : HOk P w (upd H a o) h' := fun b u e => by
  have hn := x.fresh hp
  by_cases hb : b = a
  · subst hb; rw [upd_same] at e; cases e; exact new
  · rw [upd_ne hb] at e
    exact (x b u e).stay (fun c v _ q => k c v q) (fun c q => by rw [upd_ne (ne_of_none q hn)]; exact q) fun c xs q => by rw [upd_ne (ne_of_none q hn)]; exact q
end

/-- what may be read as u: it is u, or a known u -/
def Rd (H : Hp) (a : Addr) (u : HO) : Prop := H a = some u ∨ ∃ o, H a = some (.frz o u)
theorem Rd.of {H : Hp} {a : Addr} {u : HO} (h : H a = some u) : Rd H a u := .inl h
theorem Rd.ok {P : Program} {w : World} {H : Hp} {h : Heap} {a : Addr} {u : HO} (r : Rd H a u) (x : HOk P w H h) : ObjOk P w H h a u := by
  rcases r with r | ⟨o, r⟩
  · exact x a u r
  · obtain ⟨_, q⟩ := x a _ r
    exact q
/-- what may be written -/
def Mut : Option HO → Prop
  | some (.lst _) => True
  | some (.dK _) => True
  | some (.dT _) => True
  | some (.set _ _) => True
  | some (.ins _ _ _) => True
  | some (.ext _) => True
  | _ => False
section
variable {P : Program} {w : World} {H : Hp} {h h' : Heap} {x e : Addr} {o' : HO}
/-- the object at e is changed: x itself, or the dict of the instance x -/
theorem HOk.write (ok : HOk P w H h) (mu : Mut (H x)) (he : e = x ∨ H e = some (.own x)) (k : ∀ b u, b ≠ e → h.get? b = some u → h'.get? b = some u) (heo : ∃ u, h'.get? e = some u)
    (new : ObjOk P w (upd H x o') h' x o') : HOk P w (upd H x o') h' := fun b u q => by
  have nown : ∀ c y, H c = some (.own y) → c ≠ x := fun c y r z => by subst z; rw [r] at mu; exact mu
  have ntup : ∀ c xs, H c = some (.tup xs) → c ≠ x := fun c xs r z => by subst z; rw [r] at mu; exact mu
  by_cases hb : b = x
  · subst hb; rw [upd_same] at q; cases q; exact new
  · rw [upd_ne hb] at q
    by_cases hbe : b = e
    · have q' : H b = some (.own x) := by
        rcases he with z | z
        · exact absurd (hbe.trans z) hb
        · rw [hbe]; exact z
      rw [q] at q'; cases q'
      obtain ⟨v, hv⟩ := heo
      exact ⟨v, by rw [hbe]; exact hv⟩
    · refine (ok b u q).stay (fun c v hc r => k c v ?_ r) (fun c r => by rw [upd_ne (nown c b r)]; exact r) fun c xs r => by rw [upd_ne (ntup c xs r)]; exact r
      rcases hc with rfl | hc
      · exact hbe
      · rintro rfl
        rcases he with z | z
        · exact nown c b hc z
        · rw [hc] at z; cases z; exact hb rfl
end

/-! ### kept unless tracked; of the frames at fs (the callers') the slots may change (an exception that passes writes there); of the records at ex (iterators) nothing is said -/
structure Un (fs ex : List Addr) (H H' : Hp) (h h' : Heap) : Prop where
  keep : ∀ b o, h.get? b = some o → H b = none → b ∉ fs → b ∉ ex → h'.get? b = some o
  slot : ∀ b o, h.get? b = some o → H b = none → b ∈ fs → b ∉ ex → ∃ sl, h'.get? b = some { o with slots := sl }
  free : ∀ b o, h.get? b = some o → H b = none → b ∉ ex → H' b = none
  there : ∀ b o, h.get? b = some o → b ∉ ex → ∃ o', h'.get? b = some o'
  tups : ∀ b xs, H b = some (.tup xs) → H' b = some (.tup xs)
  frzs : ∀ b o u, H b = some (.frz o u) → H' b = some (.frz o u)
  tbls : ∀ b ps, H b = some (.tbl ps) → ∃ more, H' b = some (.tbl (ps ++ more))
section
variable {fs fs' ex ex' : List Addr} {H H1 H2 : Hp} {h h1 h2 h' : Heap} {a x e : Addr} {o : HO}
theorem Un.any (u : Un fs ex H H1 h h1) {b : Addr} {ob : Obj} (q : h.get? b = some ob) (n : H b = none) (hx : b ∉ ex) : ∃ sl, h1.get? b = some { ob with slots := sl } := by
  by_cases hb : b ∈ fs
  · exact u.slot b ob q n hb hx
  · exact ⟨ob.slots, u.keep b ob q n hb hx⟩
theorem Un.trans (a : Un fs ex H H1 h h1) (b : Un fs ex H1 H2 h1 h2) : Un fs ex H H2 h h2 where
  keep := fun c ob q n hc hx => b.keep c ob (a.keep c ob q n hc hx) (a.free c ob q n hx) hc hx
  slot := fun c ob q n hc hx => by
    obtain ⟨sl, e1⟩ := a.slot c ob q n hc hx
    obtain ⟨sl', e2⟩ := b.slot c _ e1 (a.free c ob q n hx) hc hx
    exact ⟨sl', e2⟩
  free := fun c ob q n hx => by
    obtain ⟨o', e1⟩ := a.there c ob q hx
    exact b.free c o' e1 (a.free c ob q n hx) hx
  there := fun c ob q hx => by
    obtain ⟨o', e1⟩ := a.there c ob q hx
    exact b.there c o' e1 hx
  tups := fun c xs q => b.tups c xs (a.tups c xs q)
  frzs := fun c ob xs q => b.frzs c ob xs (a.frzs c ob xs q)
  tbls := fun c ps q => by
    obtain ⟨m1, e1⟩ := a.tbls c ps q
    obtain ⟨m2, e2⟩ := b.tbls c _ e1
    exact ⟨m1 ++ m2, by rw [e2, Array.append_assoc]⟩
theorem Un.kept (k : ∀ b u, h.get? b = some u → h'.get? b = some u) : Un fs ex H H h h' :=
  ⟨fun b ob q _ _ _ => k b ob q, fun b ob q _ _ _ => ⟨ob.slots, k b ob q⟩, fun _ _ _ n _ => n, fun b ob q _ => ⟨ob, k b ob q⟩, fun _ _ q => q, fun _ _ _ q => q, fun _ ps q => ⟨#[], by rw [q]; simp⟩⟩
theorem Un.refl : Un fs ex H H h h := Un.kept fun _ _ q => q
theorem Un.laid (k : ∀ b u, h.get? b = some u → h'.get? b = some u) (hp : h.objs.size ≤ a) (hn : H a = none) : Un fs ex H (upd H a o) h h' where
  keep := fun b u q _ _ _ => k b u q
  slot := fun b u q _ _ _ => ⟨u.slots, k b u q⟩
  free := fun b u q n _ => by rw [upd_ne (Nat.ne_of_lt (Nat.lt_of_lt_of_le (Heap.lt_size q) hp))]; exact n
  there := fun b u q _ => ⟨u, k b u q⟩
  tups := fun b xs q => by rw [upd_ne (ne_of_none q hn)]; exact q
  frzs := fun b u xs q => by rw [upd_ne (ne_of_none q hn)]; exact q
  tbls := fun b ps q => ⟨#[], by rw [upd_ne (ne_of_none q hn), q]; simp⟩
theorem Un.write (mu : Mut (H x)) (he : e = x ∨ H e = some (.own x)) (k : ∀ b u, b ≠ e → h.get? b = some u → h'.get? b = some u) (heo : ∃ u, h'.get? e = some u) : Un fs ex H (upd H x o) h h' := by
  have hx : ∀ b, H b = none → b ≠ x := fun b n z => by subst z; rw [n] at mu; exact mu
  have hb : ∀ b, H b = none → b ≠ e := fun b n z => by
    subst z
    rcases he with r | r
    · exact hx b n r
    · rw [n] at r; cases r
  have hm : ∀ b u, H b = some u → ¬ Mut (some u) → b ≠ x := fun b u q nm z => by subst z; rw [q] at mu; exact nm mu
  refine ⟨fun b u q n _ _ => k b u (hb b n) q, fun b u q n _ _ => ⟨u.slots, k b u (hb b n) q⟩, fun b u q n _ => by rw [upd_ne (hx b n)]; exact n, fun b u q _ => ?_,
    fun b xs q => by rw [upd_ne (hm b _ q fun z => z)]; exact q, fun b u xs q => by rw [upd_ne (hm b _ q fun z => z)]; exact q, fun b ps q => ⟨#[], by rw [upd_ne (hm b _ q fun z => z), q]; simp⟩⟩
  by_cases hbe : b = e
  · subst hbe; exact heo
  · exact ⟨u, k b u hbe q⟩
theorem Un.mono (u : Un fs ex H H1 h h1) (hs : ∀ b ∈ fs, b ∈ fs') (hx : ∀ b ∈ ex, b ∈ ex') : Un fs' ex' H H1 h h1 :=
  ⟨fun b ob q n hb he => u.keep b ob q n (fun z => hb (hs b z)) fun z => he (hx b z), fun _ _ q n _ he => u.any q n fun z => he (hx _ z), fun b ob q n he => u.free b ob q n fun z => he (hx b z), fun b ob q he => u.there b ob q fun z => he (hx b z), u.tups, u.frzs, u.tbls⟩
end

/-! ### the heap without what is tracked -/
def trk (h : Heap) (H : Hp) : List Addr := (List.range h.objs.size).filter fun a => (H a).isSome
def hidT (h : Heap) (H : Hp) : Heap := PySem.W.hideAll h (trk h H)
theorem hidT_size (h : Heap) (H : Hp) : (hidT h H).objs.size = h.objs.size := PySem.W.hideAll_size _ _
theorem hidT_get {h : Heap} {H : Hp} {b : Addr} {o : Obj} (e : h.get? b = some o) (n : H b = none) : (hidT h H).get? b = some o :=
  PySem.W.hideAll_get _ e fun hm => by
    have q : (H b).isSome = true := (List.mem_filter.mp hm).2
    rw [n] at q; simp at q
theorem of_hidT {h : Heap} {H : Hp} {b : Addr} {o : Obj} (e : (hidT h H).get? b = some o) : h.get? b = some o ∧ H b = none := by
  have e' : h.get? b = some o := PySem.W.of_hideAll (trk h H) e
  refine ⟨e', ?_⟩
  cases q : H b with
  | none => rfl
  | some x =>
    have hm : b ∈ trk h H := List.mem_filter.mpr ⟨List.mem_range.mpr (Heap.lt_size e'), by simp [q]⟩
    have z : (hidT h H).get? b = none := PySem.W.hideAll_none (trk h H) hm
    rw [z] at e; cases e

/-! ### OpenK's ledger, filled with every new object but one -/
def allNews (g h : Heap) (L : Addr) : List (Addr × Obj) := (List.range h.objs.size).filterMap fun a => if a = L ∨ (g.get? a).isSome = true then none else (h.get? a).map fun o => (a, o)
theorem mem_allNews {g h : Heap} {L a : Addr} {o : Obj} (h1 : a ≠ L) (h2 : g.get? a = none) (h3 : h.get? a = some o) : (a, o) ∈ allNews g h L :=
  List.mem_filterMap.mpr ⟨a, List.mem_range.mpr (Heap.lt_size h3), by simp [h1, h2, h3]⟩
theorem of_mem_allNews {g h : Heap} {L : Addr} {p : Addr × Obj} (hp : p ∈ allNews g h L) : p.1 ≠ L ∧ g.get? p.1 = none ∧ h.get? p.1 = some p.2 := by
  obtain ⟨b, _, e⟩ := List.mem_filterMap.mp hp
  split at e
  · cases e
  · rename_i hn
    cases q : h.get? b with
    | none => rw [q] at e; simp at e
    | some u =>
      rw [q] at e
      simp only [Option.map_some, Option.some.injEq] at e
      subst e
      refine ⟨fun z => hn (.inl z), ?_, q⟩
      show g.get? b = none
      cases r : g.get? b with
      | none => rfl
      | some v => exact (hn (.inr (by simp [r]))).elim
def rest (g h : Heap) (L d : Addr) : List (Addr × Obj) := (allNews g h L).filter fun p => decide (p.1 ≠ d)
theorem rest_ne {g h : Heap} {L d : Addr} : ∀ p ∈ rest g h L d, p.1 ≠ d := fun p hp => of_decide_eq_true (List.mem_filter.mp hp).2
theorem mem_rest {g h : Heap} {L d a : Addr} {o : Obj} (h1 : a ≠ L) (h2 : g.get? a = none) (h3 : h.get? a = some o) (h4 : a ≠ d) : (a, o) ∈ rest g h L d :=
  List.mem_filter.mpr ⟨mem_allNews h1 h2 h3, decide_eq_true h4⟩
theorem news_all {g h : Heap} {L : Addr} : News g L h (allNews g h L) := fun p hp => let ⟨a, b, c⟩ := of_mem_allNews hp; ⟨c, a, b⟩
theorem news_at {g h : Heap} {L d : Addr} {o : Obj} (h1 : d ≠ L) (h2 : g.get? d = none) (h3 : h.get? d = some o) : News g L h ((d, o) :: rest g h L d) := fun p hp => by
  rcases List.mem_cons.mp hp with rfl | hp
  · exact ⟨h3, h1, h2⟩
  · exact news_all p (List.mem_filter.mp hp).1
/-- behind a rule that changed d alone: all else but the frame is kept -/
theorem kept_of_news {g h h' : Heap} {L d : Addr} {m : Str → Option Value} (k : ∀ b o, g.get? b = some o → h.get? b = some o) (F : Fr g L h' m) (N : News g L h' (rest g h L d)) :
    ∀ b o, b ≠ L → b ≠ d → h.get? b = some o → h'.get? b = some o := fun b o h1 h2 e => by
  cases q : g.get? b with
  | some u =>
    have := k b u q
    rw [e] at this; cases this
    exact F.keep b _ q
  | none => exact (N (b, o) (mem_rest h1 q e h2)).1
end L2

namespace L2
open PySem PySem.Spec PyProof.Rows

/-- the module's facts, over the base: the heap at the law's entry without what is tracked there -/
structure Mod (K : PySem.W.Frag) (mg : Str → Option Value) (base : Heap) : Prop where
  kin : K.In base
  glob : base.Ns mainGlobals mg
  blt : ∃ mb, base.Ns builtinsNs mb ∧ ∀ x : Str, x ≠ "__name__" → mb x = bootBuiltins x
  nolimit : base.NoLimit

/-- the context: a def's body (or a comprehension's block) running. base: fixed through the whole law; s₀, H₀: the entry; outer: the frames whose slots others may change (a def's callers); stack: all frames that run;
   ex: iterators that were made ahead of the entry and are walked here (a comprehension's); fn: the names whose cells were made at the entry (a def: all; a comprehension's block: its own); calm: not within an except suite; pn: pins that every state bears; xe: what is wanted of an exception that leaves the code -/
structure Cx where
  prog : Program
  w : World
  K : PySem.W.Frag
  mg : Str → Option Value
  base : Heap
  A : Around
  N : List Str
  s₀ : Shared
  H₀ : Hp
  env : Env
  outer : List Env
  stack : List Env
  ex : List Addr
  fn : Str → Bool
  calm : Bool
  pn : List (Addr × Obj)
  xe : Value → Shared → Prop
/-- the callers' frames -/
def frs (l : List Env) : List Addr := l.filterMap (·.frame)
abbrev Cx.fs (X : Cx) : List Addr := frs X.outer

def Vis (sc : Scope) (x : Str) : Prop := sc.names.lookup x = some .local ∨ sc.names.lookup x = some .cell ∨ sc.names.lookup x = some .free
def Loc (sc : Scope) (x : Str) : Prop := sc.names.lookup x = some .local ∨ sc.names.lookup x = some .cell
def Look (env : Env) (h : Heap) (m : Str → Option Value) (x : Str) (u : Value) : Prop :=
  (env.kindOf x = some .local ∧ m x = some u) ∨ ((env.kindOf x = some .cell ∨ env.kindOf x = some .free) ∧ ∃ c, env.cells.lookup x = some c ∧ h.IsCell c (some u))

structure Cx.Ok (X : Cx) : Prop where
  mod : Mod X.K X.mg X.base
  kind : X.env.scope.kind = .function
  glob : X.env.globals = mainGlobals
  blt : X.env.builtins = builtinsNs
  above : X.s₀.heap.objs.size ≤ X.env.locals
  inj : ∀ x y c, X.env.cells.lookup x = some c → X.env.cells.lookup y = some c → x = y
  has : ∀ x, (X.env.kindOf x = some .cell ∨ X.env.kindOf x = some .free) → ∃ c, X.env.cells.lookup x = some c
  cab : ∀ x c, X.fn x = true → X.env.cells.lookup x = some c → X.s₀.heap.objs.size ≤ c
  hd : X.calm = true → X.A.handled = none
  frames : X.A.frames = some X.stack
  stk : X.stack = X.outer ∨ (X.stack = X.env :: X.outer ∧ X.env.frame = some X.env.locals)
  exf : ∀ b ∈ X.ex, b ≠ X.env.locals ∧ ∀ x c, X.env.cells.lookup x = some c → c ≠ b
  bs : ∀ b o, X.base.get? b = some o → X.s₀.heap.get? b = some o ∧ X.H₀ b = none
  bsz : X.base.objs.size ≤ X.s₀.heap.objs.size
  noex : ∀ b o, X.base.get? b = some o → b ∉ X.ex
  exfs : ∀ b ∈ X.ex, b ∉ X.fs
  funs : X.s₀.heap.FunFrames X.base X.outer
  frf : ∀ b ∈ X.fs, X.H₀ b = none

structure Inv (X : Cx) (pins : List (Addr × Obj)) (σ : List (Option V)) (H : Hp) (s : Shared) : Prop where
  ok : X.Ok
  os : s.os = X.s₀.os
  bare : AllBare s.gens
  base : Un X.fs X.ex X.H₀ H X.s₀.heap s.heap
  loc : ∃ m, s.heap.Ns X.env.locals m ∧ ∀ (i : Nat) (x : Str) (v : V), X.N[i]? = some x → σ[i]? = some (some v) → Vis X.env.scope x → ∃ u, RelV v u ∧ Look X.env s.heap m x u
  cell : ∀ x c, X.env.cells.lookup x = some c → ∃ v, s.heap.IsCell c v
  free : H X.env.locals = none
  freeC : ∀ x c, X.env.cells.lookup x = some c → H c = none
  pin : ∀ p ∈ X.pn ++ pins, s.heap.get? p.1 = some p.2 ∧ H p.1 = none ∧ p.1 ≠ X.env.locals ∧ p.1 ∉ X.fs ∧ ∀ v, p.2.data ≠ .cell v
  hok : HOk X.prog X.w H s.heap
  len : σ.length = X.N.length

section
variable {X : Cx} {pins : List (Addr × Obj)} {σ : List (Option V)} {H H' : Hp} {s : Shared} {h' : Heap}

theorem Cx.Ok.nofr (ok : X.Ok) {b : Addr} {o : Obj} (e : X.base.get? b = some o) : b ∉ X.fs := fun hb => by
  have := (ok.funs.mem hb).1
  rw [e] at this; cases this
theorem Inv.bs (I : Inv X pins σ H s) : ∀ b o, X.base.get? b = some o → s.heap.get? b = some o ∧ H b = none := fun b o e =>
  ⟨I.base.keep b o (I.ok.bs b o e).1 (I.ok.bs b o e).2 (I.ok.nofr e) (I.ok.noex b o e), I.base.free b o (I.ok.bs b o e).1 (I.ok.bs b o e).2 (I.ok.noex b o e)⟩
theorem Inv.bk (I : Inv X pins σ H s) : ∀ b o, X.base.get? b = some o → s.heap.get? b = some o := fun b o e => (I.bs b o e).1
theorem Inv.mod (I : Inv X pins σ H s) : Mod X.K X.mg X.base := I.ok.mod
theorem Inv.kIn (I : Inv X pins σ H s) : X.K.In s.heap := I.ok.mod.kin.keeps I.bk
theorem Inv.nolimit (I : Inv X pins σ H s) : s.heap.NoLimit := I.ok.mod.nolimit.keeps I.bk
/-- the frame over the base: for OpenK's rules (K.In X.base is I.mod.kin) -/
theorem Inv.fr (I : Inv X pins σ H s) : ∃ m, Fr X.base X.env.locals s.heap m :=
  let ⟨m, hn, _⟩ := I.loc
  ⟨m, hn, I.bk, Nat.le_trans I.ok.bsz I.ok.above⟩
theorem Inv.lt (I : Inv X pins σ H s) : X.env.locals < s.heap.objs.size := let ⟨_, hn, _⟩ := I.loc; hn.lt
theorem Inv.sz (I : Inv X pins σ H s) : X.s₀.heap.objs.size ≤ s.heap.objs.size := Nat.le_trans I.ok.above (Nat.le_of_lt I.lt)
theorem Inv.nofs (I : Inv X pins σ H s) {a : Addr} (h : s.heap.objs.size ≤ a) : a ∉ X.fs := fun hb => by
  obtain ⟨_, o, ho, _⟩ := I.ok.funs.mem hb
  exact absurd (Nat.lt_of_lt_of_le (Heap.lt_size ho) (Nat.le_trans I.sz h)) (Nat.lt_irrefl _)
theorem Inv.cne (I : Inv X pins σ H s) : ∀ x c, X.env.cells.lookup x = some c → c ≠ X.env.locals := fun x c e z => by
  obtain ⟨v, o, ho, hd⟩ := I.cell x c e
  obtain ⟨m, ⟨o', es, ep, ho', hd', _⟩, _⟩ := I.loc
  rw [z, ho'] at ho; cases ho; rw [hd'] at hd; cases hd
theorem Inv.funs (I : Inv X pins σ H s) : s.heap.FunFrames X.base X.outer := by
  have all : ∀ (l : List Env), (∀ b ∈ frs l, b ∈ X.fs) → X.s₀.heap.FunFrames X.base l → s.heap.FunFrames X.base l := by
    intro l
    induction l with
    | nil => intro _ _; trivial
    | cons env r ih =>
      intro hs hl
      obtain ⟨hk, ⟨L, o, hf, hn, ho, hd⟩, hr⟩ := hl
      have hL : L ∈ X.fs := hs L (by unfold frs; rw [List.filterMap_cons, hf]; exact List.mem_cons_self)
      obtain ⟨sl, e⟩ := I.base.slot L o ho (I.ok.frf L hL) hL fun z => I.ok.exfs L z hL
      exact ⟨hk, ⟨L, _, hf, hn, e, hd⟩, ih (fun b hb => hs b (by unfold frs; rw [List.filterMap_cons, hf]; exact List.mem_cons_of_mem _ hb)) hr⟩
  exact all X.outer (fun _ hb => hb) I.ok.funs

/-- the frames that run, for a call -/
theorem Inv.stack (I : Inv X pins σ H s) : s.heap.FunFrames X.base X.stack := by
  rcases I.ok.stk with e | ⟨e, hf⟩
  · rw [e]; exact I.funs
  · rw [e]
    obtain ⟨m, hn, _⟩ := I.loc
    refine .cons (by rw [I.ok.kind]; decide) hf hn ?_ I.funs
    exact Heap.get?_none_of_le (Nat.le_trans I.ok.bsz I.ok.above)
theorem Inv.stkSub (I : Inv X pins σ H s) : ∀ b ∈ frs X.stack, b ∈ X.env.locals :: X.fs := fun b hb => by
  rcases I.ok.stk with e | ⟨e, hf⟩
  · rw [e] at hb; exact List.mem_cons_of_mem _ hb
  · rw [e] at hb
    unfold frs at hb
    rw [List.filterMap_cons, hf] at hb
    exact hb
theorem Inv.stkFree (I : Inv X pins σ H s) : ∀ b ∈ frs X.stack, H b = none := fun b hb => by
  rcases List.mem_cons.mp (I.stkSub b hb) with e | hb
  · rw [e]; exact I.free
  · obtain ⟨_, o, ho, _⟩ := I.ok.funs.mem hb
    exact I.base.free b o ho (I.ok.frf b hb) fun z => I.ok.exfs b z hb

/-- THE STEP: the untracked objects but the frame and the records at ch are kept (the callers' frames up to slots), the frame's map is kept, the new abstract heap is held -/
theorem Inv.step {g' : Array GenState} {t' : Nat} {d' : Drawn} {ch : List Addr} (I : Inv X pins σ H s)
    (hch : ∀ b ∈ ch, (b ∈ X.ex ∨ X.s₀.heap.objs.size ≤ b) ∧ b ≠ X.env.locals ∧ (∀ x c, X.env.cells.lookup x = some c → c ≠ b) ∧ ∀ p ∈ X.pn ++ pins, p.1 ≠ b)
    (keep : ∀ b o, b ≠ X.env.locals → b ∉ X.fs → b ∉ ch → s.heap.get? b = some o → H b = none → h'.get? b = some o)
    (slot : ∀ b o, b ≠ X.env.locals → b ∈ X.fs → b ∉ ch → s.heap.get? b = some o → H b = none → ∃ sl, h'.get? b = some { o with slots := sl }) (free : ∀ b o, b ∉ ch → s.heap.get? b = some o → H b = none → H' b = none)
    (there : ∀ b o, b ∉ ch → s.heap.get? b = some o → ∃ o', h'.get? b = some o')
    (tups : ∀ b xs, H b = some (.tup xs) → H' b = some (.tup xs)) (frzs : ∀ b o u, H b = some (.frz o u) → H' b = some (.frz o u)) (tbls : ∀ b ps, H b = some (.tbl ps) → ∃ more, H' b = some (.tbl (ps ++ more)))
    (ns : ∀ m, s.heap.Ns X.env.locals m → h'.Ns X.env.locals m) (hok : HOk X.prog X.w H' h') (hg : AllBare g') :
    Inv X pins σ H' { s with heap := h', gens := g', drawn := d', toks := t' } := by
  have neL : ∀ b o, X.s₀.heap.get? b = some o → b ≠ X.env.locals := fun b o e => Nat.ne_of_lt (Nat.lt_of_lt_of_le (Heap.lt_size e) I.ok.above)
  have neC : ∀ b o, X.s₀.heap.get? b = some o → b ∉ X.ex → b ∉ ch := fun b o e hx hb => by
    rcases (hch b hb).1 with z | z
    · exact hx z
    · exact absurd (Nat.lt_of_lt_of_le (Heap.lt_size e) z) (Nat.lt_irrefl _)
  have cellK : ∀ x c, X.env.cells.lookup x = some c → ∀ v, s.heap.IsCell c v → h'.IsCell c v := fun x c e v ⟨o, ho, hd⟩ => by
    have nch : c ∉ ch := fun z => (hch c z).2.2.1 x c e rfl
    by_cases hc : c ∈ X.fs
    · obtain ⟨sl, q⟩ := slot c o (I.cne x c e) hc nch ho (I.freeC x c e)
      exact ⟨_, q, hd⟩
    · exact ⟨o, keep c o (I.cne x c e) hc nch ho (I.freeC x c e), hd⟩
  refine ⟨I.ok, I.os, hg, ⟨fun b o e n hb hx => ?_, fun b o e n hb hx => ?_, fun b o e n hx => ?_, fun b o e hx => ?_, fun b xs e => tups b xs (I.base.tups b xs e), fun b o xs e => frzs b o xs (I.base.frzs b o xs e), fun b ps e => ?_⟩, ?_, fun x c e => ?_, ?_, fun x c e => ?_, fun p hp => ?_, hok, I.len⟩
  · exact keep b o (neL b o e) hb (neC b o e hx) (I.base.keep b o e n hb hx) (I.base.free b o e n hx)
  · obtain ⟨sl, e1⟩ := I.base.slot b o e n hb hx
    obtain ⟨sl', e2⟩ := slot b _ (neL b o e) hb (neC b o e hx) e1 (I.base.free b o e n hx)
    exact ⟨sl', e2⟩
  · obtain ⟨o', e1⟩ := I.base.there b o e hx
    exact free b o' (neC b o e hx) e1 (I.base.free b o e n hx)
  · obtain ⟨o', e1⟩ := I.base.there b o e hx
    exact there b o' (neC b o e hx) e1
  · obtain ⟨m1, e1⟩ := I.base.tbls b ps e
    obtain ⟨m2, e2⟩ := tbls b _ e1
    exact ⟨m1 ++ m2, by rw [e2, Array.append_assoc]⟩
  · obtain ⟨m, hn, hl⟩ := I.loc
    refine ⟨m, ns m hn, fun i x v e1 e2 e3 => ?_⟩
    obtain ⟨u, r, l⟩ := hl i x v e1 e2 e3
    refine ⟨u, r, ?_⟩
    rcases l with l | ⟨k, c, e, z⟩
    · exact .inl l
    · exact .inr ⟨k, c, e, cellK x c e _ z⟩
  · obtain ⟨v, z⟩ := I.cell x c e
    exact ⟨v, cellK x c e v z⟩
  · obtain ⟨m, ⟨o, _, _, ho, _⟩, _⟩ := I.loc
    exact free _ o (fun z => (hch _ z).2.1 rfl) ho I.free
  · obtain ⟨v, o, ho, hd⟩ := I.cell x c e
    exact free c o (fun z => (hch c z).2.2.1 x c e rfl) ho (I.freeC x c e)
  · obtain ⟨e, n, ne, nf, d⟩ := I.pin p hp
    have nch : p.1 ∉ ch := fun z => (hch p.1 z).2.2.2 p hp rfl
    exact ⟨keep p.1 p.2 ne nf nch e n, free p.1 p.2 nch e n, ne, nf, d⟩
/-- .. where the frame's own object is kept too -/
theorem Inv.un {t' : Nat} (I : Inv X pins σ H s) (u : Un X.fs [] H H' s.heap h') (hok : HOk X.prog X.w H' h') : Inv X pins σ H' { s with heap := h', toks := t' } := by
  obtain ⟨m, ⟨o, es, ep, ho, r⟩, _⟩ := id I.loc
  obtain ⟨sl, hL⟩ := u.any ho I.free (by simp)
  exact I.step (g' := s.gens) (d' := s.drawn) (ch := []) (fun _ z => nomatch z) (fun b o _ hb _ e n => u.keep b o e n hb (by simp)) (fun b o _ hb _ e n => u.slot b o e n hb (by simp)) (fun b o _ e n => u.free b o e n (by simp)) (fun b o _ e => u.there b o e (by simp)) u.tups u.frzs u.tbls (fun m' hm => by
    obtain ⟨o', es', ep', ho', r'⟩ := hm
    rw [ho] at ho'; cases ho'
    exact ⟨_, es', ep', hL, r'⟩) hok I.bare
/-- behind a call (or a comprehension's block): the slots of this frame may have changed too, the records at ch may have turned -/
theorem Inv.call {g' : Array GenState} {t' : Nat} {d' : Drawn} {ch : List Addr} (I : Inv X pins σ H s) (u : Un (frs X.stack) ch H H' s.heap h') (hok : HOk X.prog X.w H' h') (hg : AllBare g')
    (hch : ∀ b ∈ ch, (b ∈ X.ex ∨ X.s₀.heap.objs.size ≤ b) ∧ b ≠ X.env.locals ∧ (∀ x c, X.env.cells.lookup x = some c → c ≠ b) ∧ ∀ p ∈ X.pn ++ pins, p.1 ≠ b) :
    Inv X pins σ H' { s with heap := h', gens := g', drawn := d', toks := t' } := by
  obtain ⟨m, ⟨o, es, ep, ho, r⟩, _⟩ := id I.loc
  obtain ⟨sl, hL⟩ := u.any ho I.free fun z => (hch _ z).2.1 rfl
  exact I.step (ch := ch) hch (fun b o hL hb hc e n => u.keep b o e n (fun z => (List.mem_cons.mp (I.stkSub b z)).elim hL hb) hc) (fun b o _ _ hc e n => u.any e n hc) (fun b o hc e n => u.free b o e n hc) (fun b o hc e => u.there b o e hc) u.tups u.frzs u.tbls (fun m' hm => by
    obtain ⟨o', es', ep', ho', r'⟩ := hm
    rw [ho] at ho'; cases ho'
    exact ⟨_, es', ep', hL, r'⟩) hok hg
/-- an untracked record of ours (an iterator) has turned -/
theorem Inv.turned {t' : Nat} {it : Addr} (I : Inv X pins σ H s) (k : ∀ b o, b ≠ it → s.heap.get? b = some o → h'.get? b = some o) (hn : H it = none) (hL : it ≠ X.env.locals)
    (h1 : it ∈ X.ex ∨ X.s₀.heap.objs.size ≤ it) (h2 : ∀ x c, X.env.cells.lookup x = some c → c ≠ it) (h3 : ∀ p ∈ X.pn ++ pins, p.1 ≠ it) : Inv X pins σ H { s with heap := h', toks := t' } := by
  have nit : ∀ b u, H b = some u → b ≠ it := fun b u e z => by rw [z, hn] at e; cases e
  refine I.step (g' := s.gens) (d' := s.drawn) (ch := [it]) (fun b hb => ?_) (fun b o _ _ hc e _ => k b o (fun z => hc (by simp [z])) e) (fun b o _ _ hc e _ => ⟨o.slots, k b o (fun z => hc (by simp [z])) e⟩) (fun _ _ _ _ n => n)
    (fun b o hc e => ⟨o, k b o (fun z => hc (by simp [z])) e⟩) (fun _ _ e => e) (fun _ _ _ e => e) (fun b ps e => ⟨#[], by rw [e]; simp⟩) (fun m hm => ?_) (fun b u e => ?_) I.bare
  · have e : b = it := by simpa using hb
    subst e
    exact ⟨h1, hL, h2, h3⟩
  · obtain ⟨o, es, ep, ho, r⟩ := hm
    exact ⟨o, es, ep, k _ o (Ne.symm hL) ho, r⟩
  · refine (I.hok b u e).stay (fun c v hc q => k c v ?_ q) (fun _ q => q) fun _ _ q => q
    rcases hc with z | z
    · rw [z]; exact nit b u e
    · exact nit c _ z
theorem Inv.tok (I : Inv X pins σ H s) (t : Nat) : Inv X pins σ H { s with toks := t } := I.un (h' := s.heap) (t' := t) Un.refl I.hok
/-- all objects kept -/
theorem Inv.kept {t' : Nat} (I : Inv X pins σ H s) (k : ∀ b u, s.heap.get? b = some u → h'.get? b = some u) : Inv X pins σ H { s with heap := h', toks := t' } := I.un (Un.kept k) (I.hok.kept k)
/-- a new object laid and tracked -/
theorem Inv.laid {a : Addr} {o : HO} {t' : Nat} (I : Inv X pins σ H s) (k : ∀ b u, s.heap.get? b = some u → h'.get? b = some u) (hp : s.heap.objs.size ≤ a) (new : ObjOk X.prog X.w (upd H a o) h' a o) :
    Inv X pins σ (upd H a o) { s with heap := h', toks := t' } := I.un (Un.laid k hp (I.hok.fresh hp)) (I.hok.laid k hp new)
/-- an object written -/
theorem Inv.write {x e : Addr} {o : HO} {t' : Nat} (I : Inv X pins σ H s) (mu : Mut (H x)) (he : e = x ∨ H e = some (.own x)) (k : ∀ b u, b ≠ e → s.heap.get? b = some u → h'.get? b = some u) (heo : ∃ u, h'.get? e = some u)
    (new : ObjOk X.prog X.w (upd H x o) h' x o) : Inv X pins σ (upd H x o) { s with heap := h', toks := t' } := I.un (Un.write mu he k heo) (I.hok.write mu he k heo new)
/-- forgetting slots, pins -/
theorem Inv.weak {σ' : List (Option V)} (I : Inv X pins σ H s) (hl : σ'.length = σ.length) (w : ∀ (i : Nat) v, σ'[i]? = some (some v) → σ[i]? = some (some v)) : Inv X pins σ' H s :=
  ⟨I.ok, I.os, I.bare, I.base, let ⟨m, hn, hl'⟩ := I.loc; ⟨m, hn, fun i x v e1 e2 e3 => hl' i x v e1 (w i v e2) e3⟩, I.cell, I.free, I.freeC, I.pin, I.hok, hl.trans I.len⟩
theorem Inv.pins_of {pins' : List (Addr × Obj)} (I : Inv X pins σ H s) (h : ∀ p ∈ pins', s.heap.get? p.1 = some p.2 ∧ H p.1 = none ∧ p.1 ≠ X.env.locals ∧ p.1 ∉ X.fs ∧ ∀ v, p.2.data ≠ .cell v) : Inv X pins' σ H s :=
  ⟨I.ok, I.os, I.bare, I.base, I.loc, I.cell, I.free, I.freeC, fun p hp => (List.mem_append.mp hp).elim (fun z => I.pin p (List.mem_append_left _ z)) (h p), I.hok, I.len⟩

theorem nodup_ix {N : List Str} (hN : N.Nodup) {i j : Nat} {x : Str} (a : N[i]? = some x) (b : N[j]? = some x) : i = j := by
  obtain ⟨h1, e1⟩ := List.getElem?_eq_some_iff.mp a
  obtain ⟨h2, e2⟩ := List.getElem?_eq_some_iff.mp b
  exact (List.getElem_inj hN).mp (e1.trans e2.symm)

/-- a name is stored; what changed -/
theorem store_ok2 {M : Model} {A : Around} {E : Value → Shared → Prop} {i : Nat} {x : Str} {v : V} {u : Value} {Q : Unit → Shared → Prop} (I : Inv X pins σ H s) (hN : X.N.Nodup) (hi : X.N[i]? = some x) (hx : Loc X.env.scope x) (r : RelV v u)
    (h : ∀ s', Inv X pins (σ.set i (some v)) H s' → (∃ a, Heap.SameBut a s.heap s'.heap ∧ (a = X.env.locals ∨ X.env.cells.lookup x = some a)) → Q () s') (hf : X.fn x = true ∨ X.env.scope.names.lookup x = some .local := by first | exact .inl rfl | exact .inr rfl | assumption) : wpAny M A (storeName X.env x u) Q E s := by
  obtain ⟨m, hn, hl⟩ := id I.loc
  have hcls : (X.env.scope.kind == .class || (X.env.scope.kind == .module && X.env.locals != X.env.globals)) = false := by rw [I.ok.kind]; rfl
  have hiσ : i < σ.length := by rw [I.len]; exact (List.getElem?_eq_some_iff.mp hi).1
  have cne := I.cne
  have tracked : ∀ {a : Addr} {h' : Heap}, (∃ o, s.heap.get? a = some o ∧ H a = none) → Heap.SameBut a s.heap h' → HOk X.prog X.w H h' := fun {a h'} ha hs b ob e => by
    obtain ⟨_, _, hfree⟩ := ha
    refine (I.hok b ob e).stay (fun c w' hc q => (hs.2 c ?_).trans q) (fun _ q => q) fun _ _ q => q
    rintro rfl
    rcases hc with rfl | hc
    · rw [hfree] at e; cases e
    · rw [hfree] at hc; cases hc
  rcases hx with hk | hk
  · refine wpAny_storeName_local hk hn (fun h' hn' hs => ?_) hcls
    obtain ⟨oL, _, _, hoL, _⟩ := id hn
    refine h _ ⟨I.ok, I.os, I.bare, ⟨fun b o e n hb hx => ?_, fun b o e n hb hx => ?_, I.base.free, fun b o e hx => ?_, I.base.tups, I.base.frzs, I.base.tbls⟩, ⟨_, hn', fun j y v' e1 e2 e3 => ?_⟩, fun y c e => ?_, I.free, I.freeC, fun p hp => ?_, tracked ⟨oL, hoL, I.free⟩ hs, by simpa using I.len⟩ ⟨_, hs, .inl rfl⟩
    · exact (hs.2 b (Nat.ne_of_lt (Nat.lt_of_lt_of_le (Heap.lt_size e) I.ok.above))).trans (I.base.keep b o e n hb hx)
    · obtain ⟨sl, e1⟩ := I.base.slot b o e n hb hx
      exact ⟨sl, (hs.2 b (Nat.ne_of_lt (Nat.lt_of_lt_of_le (Heap.lt_size e) I.ok.above))).trans e1⟩
    · obtain ⟨o', e1⟩ := I.base.there b o e hx
      exact ⟨o', (hs.2 b (Nat.ne_of_lt (Nat.lt_of_lt_of_le (Heap.lt_size e) I.ok.above))).trans e1⟩
    · by_cases hj : j = i
      · subst hj
        rw [hi] at e1; cases e1
        rw [List.getElem?_set_self hiσ] at e2
        cases e2
        exact ⟨u, r, .inl ⟨hk, by simp⟩⟩
      · rw [List.getElem?_set_ne (Ne.symm hj)] at e2
        obtain ⟨u', r', q⟩ := hl j y v' e1 e2 e3
        refine ⟨u', r', ?_⟩
        rcases q with ⟨k, e⟩ | ⟨k, c, e, z⟩
        · refine .inl ⟨k, ?_⟩
          have : y ≠ x := fun e => hj (nodup_ix hN e1 (e ▸ hi))
          simp [this, e]
        · exact .inr ⟨k, c, e, z.sameBut hs (cne y c e)⟩
    · obtain ⟨w', z⟩ := I.cell y c e
      exact ⟨w', z.sameBut hs (cne y c e)⟩
    · obtain ⟨e, n, ne, nf, d⟩ := I.pin p hp
      exact ⟨(hs.2 p.1 ne).trans e, n, ne, nf, d⟩
  · have hfn : X.fn x = true := by
      rcases hf with z | z
      · exact z
      · rw [z] at hk; cases hk
    obtain ⟨c, hc⟩ := I.ok.has x (.inl hk)
    obtain ⟨w', z⟩ := I.cell x c hc
    refine wpAny_storeName_cell I.ok.kind hk hc z (fun h' hc' hs => ?_)
    obtain ⟨oc, hoc, hocd⟩ := id z
    refine h { s with heap := h' } ⟨I.ok, I.os, I.bare, ⟨fun b o e n hb hx => ?_, fun b o e n hb hx => ?_, I.base.free, fun b o e hx => ?_, I.base.tups, I.base.frzs, I.base.tbls⟩, ⟨m, hn.sameBut hs (Ne.symm (cne x c hc)), fun j y v' e1 e2 e3 => ?_⟩, fun y c' e => ?_, I.free, I.freeC, fun p hp => ?_, tracked ⟨oc, hoc, I.freeC x c hc⟩ hs, by simpa using I.len⟩ ⟨c, hs, .inr hc⟩
    · exact (hs.2 b (Nat.ne_of_lt (Nat.lt_of_lt_of_le (Heap.lt_size e) (I.ok.cab x c hfn hc)))).trans (I.base.keep b o e n hb hx)
    · obtain ⟨sl, e1⟩ := I.base.slot b o e n hb hx
      exact ⟨sl, (hs.2 b (Nat.ne_of_lt (Nat.lt_of_lt_of_le (Heap.lt_size e) (I.ok.cab x c hfn hc)))).trans e1⟩
    · obtain ⟨o', e1⟩ := I.base.there b o e hx
      exact ⟨o', (hs.2 b (Nat.ne_of_lt (Nat.lt_of_lt_of_le (Heap.lt_size e) (I.ok.cab x c hfn hc)))).trans e1⟩
    · by_cases hj : j = i
      · subst hj
        rw [hi] at e1; cases e1
        rw [List.getElem?_set_self hiσ] at e2
        cases e2
        exact ⟨u, r, .inr ⟨.inl hk, c, hc, hc'⟩⟩
      · rw [List.getElem?_set_ne (Ne.symm hj)] at e2
        obtain ⟨u', r', q⟩ := hl j y v' e1 e2 e3
        refine ⟨u', r', ?_⟩
        rcases q with q | ⟨k, c', e, z'⟩
        · exact .inl q
        · refine .inr ⟨k, c', e, z'.sameBut hs ?_⟩
          rintro rfl
          exact hj (nodup_ix hN e1 (I.ok.inj _ _ _ e hc ▸ hi))
    · by_cases hcc : c' = c
      · subst hcc; exact ⟨_, hc'⟩
      · obtain ⟨w2, z2⟩ := I.cell y c' e
        exact ⟨w2, z2.sameBut hs hcc⟩
    · obtain ⟨e, n, ne, nf, d⟩ := I.pin p hp
      refine ⟨(hs.2 p.1 ?_).trans e, n, ne, nf, d⟩
      intro q
      rw [q, hoc] at e
      have q' : oc = p.2 := Option.some.inj e
      exact d w' (by rw [← q']; exact hocd)
theorem store_ok {M : Model} {A : Around} {E : Value → Shared → Prop} {i : Nat} {x : Str} {v : V} {u : Value} {Q : Unit → Shared → Prop} (I : Inv X pins σ H s) (hN : X.N.Nodup) (hi : X.N[i]? = some x) (hx : Loc X.env.scope x) (r : RelV v u)
    (h : ∀ s', Inv X pins (σ.set i (some v)) H s' → Q () s') (hf : X.fn x = true ∨ X.env.scope.names.lookup x = some .local := by first | exact .inl rfl | exact .inr rfl | assumption) : wpAny M A (storeName X.env x u) Q E s :=
  store_ok2 I hN hi hx r (fun s' I' _ => h s' I') hf
/-- behind a call or a block, the state as it is -/
theorem Inv.call' {s' : Shared} {ch : List Addr} (I : Inv X pins σ H s) (ho : s'.os = s.os) (u : Un (frs X.stack) ch H H' s.heap s'.heap) (hok : HOk X.prog X.w H' s'.heap) (hg : AllBare s'.gens)
    (hch : ∀ b ∈ ch, (b ∈ X.ex ∨ X.s₀.heap.objs.size ≤ b) ∧ b ≠ X.env.locals ∧ (∀ x c, X.env.cells.lookup x = some c → c ≠ b) ∧ ∀ p ∈ X.pn ++ pins, p.1 ≠ b) : Inv X pins σ H' s' := by
  obtain ⟨h', g', d', t', o'⟩ := s'
  have e : o' = s.os := ho
  subst e
  exact I.call (g' := g') (t' := t') (d' := d') u hok hg hch
end

/-! ### the judgements -/
/-- an exception: its class, its own dict's address (where it has one), the abstract heap behind it -/
abbrev XK := Value → Option Addr → Hp → Prop
abbrev St := List (Option V)
abbrev VK := V → Hp → Prop
/-- an expression's reading; a test's; an argument list's -/
abbrev TE := St → Hp → VK → Prop
abbrev TT := St → Hp → (Bool → Hp → Prop) → Prop
abbrev TA := St → Hp → (List V → Hp → Prop) → Prop
/-- what is wanted behind a statement -/
structure Ends where
  nx : St → Hp → Prop
  rt : VK
  bk : St → Hp → Prop := fun _ _ => False
  ct : St → Hp → Prop := fun _ _ => False
abbrev TS := Ends → St → Hp → Prop

def EP (X : Cx) (pins : List (Addr × Obj)) (σ : St) (Q : VK) (u : Value) (s' : Shared) : Prop := ∃ v H', Inv X pins σ H' s' ∧ RelV v u ∧ Q v H'
def TP (X : Cx) (pins : List (Addr × Obj)) (σ : St) (Q : Bool → Hp → Prop) (b : Bool) (s' : Shared) : Prop := ∃ H', Inv X pins σ H' s' ∧ Q b H'
def AP (X : Cx) (pins : List (Addr × Obj)) (σ : St) (Q : List V → Hp → Prop) (us : List Value) (s' : Shared) : Prop := ∃ vs H', Inv X pins σ H' s' ∧ Vals vs us ∧ Q vs H'
def SP (X : Cx) (pins : List (Addr × Obj)) (D : Ends) (f : Flow) (s' : Shared) : Prop :=
  match f with
  | .next => ∃ σ' H', Inv X pins σ' H' s' ∧ D.nx σ' H'
  | .brk => ∃ σ' H', Inv X pins σ' H' s' ∧ D.bk σ' H'
  | .cont => ∃ σ' H', Inv X pins σ' H' s' ∧ D.ct σ' H'
  | .ret u => ∃ v σ' H', Inv X pins σ' H' s' ∧ RelV v u ∧ D.rt v H'

def PE (X : Cx) (e : Expr) (t : TE) : Prop :=
  ∀ (pins : List (Addr × Obj)) (s : Shared) (σ : St) (H : Hp) (Q : VK), Inv X pins σ H s → t σ H Q → wpAny (model X.prog X.w) X.A (eval e X.env) (EP X pins σ Q) X.xe s
def PT (X : Cx) (e : Expr) (t : TT) : Prop :=
  ∀ (pins : List (Addr × Obj)) (s : Shared) (σ : St) (H : Hp) (Q : Bool → Hp → Prop), Inv X pins σ H s → t σ H Q → wpAny (model X.prog X.w) X.A (isTrue e X.env (eval e X.env)) (TP X pins σ Q) X.xe s
/-- a test whatever its 'whole' is (and, or) -/
def PW (X : Cx) (e : Expr) (t : TT) : Prop :=
  ∀ (whole : Sem Value) (pins : List (Addr × Obj)) (s : Shared) (σ : St) (H : Hp) (Q : Bool → Hp → Prop), Inv X pins σ H s → t σ H Q → wpAny (model X.prog X.w) X.A (isTrue e X.env whole) (TP X pins σ Q) X.xe s
theorem PW.pt {X : Cx} {e : Expr} {t : TT} (h : PW X e t) : PT X e t := h _
/-- an argument list (no star), from the left -/
def PA (X : Cx) (es : List Expr) (t : TA) : Prop :=
  ∀ (pos : Pos) (pins : List (Addr × Obj)) (s : Shared) (σ : St) (H : Hp) (Q : List V → Hp → Prop), Inv X pins σ H s → t σ H Q → wpAny (model X.prog X.w) X.A (spliced (backTo pos (starEach es X.env))) (AP X pins σ Q) X.xe s
def PS (X : Cx) (st : Stmt) (t : TS) : Prop :=
  ∀ (pins : List (Addr × Obj)) (s : Shared) (σ : St) (H : Hp) (D : Ends), Inv X pins σ H s → t D σ H → wpAny (model X.prog X.w) X.A (exec st X.env) (SP X pins D) X.xe s
def PSs (X : Cx) (st : List Stmt) (t : TS) : Prop :=
  ∀ (pins : List (Addr × Obj)) (s : Shared) (σ : St) (H : Hp) (D : Ends), Inv X pins σ H s → t D σ H → wpAny (model X.prog X.w) X.A (execs st X.env) (SP X pins D) X.xe s
/-- weaken the end -/
theorem thn {α : Type} {t : Sem α} {Q Q' : α → Shared → Prop} {M : Model} {A : Around} {E : Value → Shared → Prop} {s : Shared} (h : wpAny M A t Q E s) (hQ : ∀ a s, Q a s → Q' a s) : wpAny M A t Q' E s := wpAny_mono h hQ fun _ _ x => x
end L2

namespace L2
open PySem PySem.Spec PyProof.Rows
section
variable {X : Cx}

/-- two expressions in a row -/
theorem bin {a b : Expr} {ta tb : TE} (ha : PE X a ta) (hb : PE X b tb) {pins : List (Addr × Obj)} {s : Shared} {σ : St} {H : Hp} {R : V → V → Hp → Prop} (I : Inv X pins σ H s) (h : ta σ H fun x H1 => tb σ H1 fun y H2 => R x y H2)
    {α : Type} {Q : α → Shared → Prop} {f : Value → Value → Sem α}
    (hf : ∀ v u s2 x y H2, Inv X pins σ H2 s2 → RelV x v → RelV y u → R x y H2 → wpAny (model X.prog X.w) X.A (f v u) Q X.xe s2) :
    wpAny (model X.prog X.w) X.A (eval a X.env) (fun v s₁ => wpAny (model X.prog X.w) X.A (eval b X.env) (fun u s₂ => wpAny (model X.prog X.w) X.A (f v u) Q X.xe s₂) X.xe s₁) X.xe s := by
  refine thn (ha pins s σ H _ I h) fun v s1 ⟨x, H1, I1, r1, q1⟩ => ?_
  refine thn (hb pins s1 σ H1 _ I1 q1) fun u s2 ⟨y, H2, I2, r2, q2⟩ => ?_
  exact hf v u s2 x y H2 I2 r1 r2 q2

/-! ### names and constants -/
def tVar (i : Nat) : TE := fun σ H Q => ∃ v, σ[i]? = some (some v) ∧ Q v H
def tC (v : V) : TE := fun _ H Q => Q v H
theorem pe_var {i : Nat} {x : Str} {pos : Pos} (hN : X.N[i]? = some x) (hv : Vis X.env.scope x) (hd : (x == ("__debug__" : Str)) = false := by decide) (hcd : (x == ("__classdict__" : Str)) = false := by decide) : PE X (.Name x pos) (tVar i) := by
  intro pins s σ H Q I h
  obtain ⟨v, e, h⟩ := h
  obtain ⟨m, hn, hl⟩ := I.loc
  obtain ⟨u, r, l⟩ := hl i x v hN e hv
  have fin : EP X pins σ Q u s := ⟨v, H, I, r, h⟩
  rcases l with ⟨hk, hm⟩ | ⟨hk, c, hc, hcell⟩
  · exact wpAny_Name (wpAny_loadName_local I.ok.kind hk hn hm fin) hd
  · rcases hk with hk | hk
    · exact wpAny_Name (wpAny_loadName_cell I.ok.kind hk hc hcell fin) hd
    · exact wpAny_Name (wpAny_loadName_free I.ok.kind hk hc hcell fin hcd) hd
theorem pe_int {i j pos} : PE X (.Constant (.int i) j pos) (tC (.int i)) := fun _ _ _ H _ I h => wpAny_Constant_int ⟨.int i, H, I.tok _, ⟨_, rfl⟩, h⟩
theorem pe_bl {b j pos} : PE X (.Constant (.bool b) j pos) (tC (.bl b)) := fun _ _ _ H _ I h => Constant_bool ⟨.bl b, H, I, rfl, h⟩
theorem pe_non {j pos} : PE X (.Constant .none j pos) (tC .non) := fun _ _ _ H _ I h => Constant_none ⟨.non, H, I, rfl, h⟩
theorem pe_str {x j pos} : PE X (.Constant (.str x) j pos) (tC (.str x)) := fun _ _ _ H _ I h => Calls.Constant_str ⟨.str x, H, I.tok _, ⟨_, rfl⟩, h⟩

/-- a global name of the def -/
def Gl (X : Cx) (x : Str) : Prop := X.env.kindOf x = some .globalImplicit
theorem ld_glob {E : Value → Shared → Prop} {pins : List (Addr × Obj)} {s : Shared} {σ : St} {H : Hp} {x : Str} {u : Value} {pos : Pos} {Q : Value → Shared → Prop} (I : Inv X pins σ H s) (hg : Gl X x) (hm : X.mg x = some u) (h : Q u s)
    (hd : (x == ("__debug__" : Str)) = false := by decide) : wpAny (model X.prog X.w) X.A (eval (.Name x pos) X.env) Q E s :=
  Calls.Name_function_global I.ok.kind hg (Calls.loadGlobal_global (by rw [I.ok.glob]; exact I.mod.glob.keeps I.bk) hm h) hd
theorem ld_blt {E : Value → Shared → Prop} {pins : List (Addr × Obj)} {s : Shared} {σ : St} {H : Hp} {x : Str} {u : Value} {pos : Pos} {Q : Value → Shared → Prop} (I : Inv X pins σ H s) (hg : Gl X x) (hm : X.mg x = none) (hv : bootBuiltins x = some u) (h : Q u s)
    (hn : x ≠ "__name__" := by decide) (hd : (x == ("__debug__" : Str)) = false := by decide) : wpAny (model X.prog X.w) X.A (eval (.Name x pos) X.env) Q E s := by
  obtain ⟨mb, h1, h2⟩ := I.mod.blt
  exact Calls.Name_function_global I.ok.kind hg (Calls.loadGlobal_builtin (by rw [I.ok.glob]; exact I.mod.glob.keeps I.bk) hm (by rw [I.ok.blt]; exact h1.keeps I.bk) ((h2 x hn).trans hv) h) hd
/-- a module's constant, a class, a function, as a value -/
theorem pe_glob {x : Str} {v : V} {u : Value} {pos : Pos} (hg : Gl X x) (hm : X.mg x = some u) (r : RelV v u) (hd : (x == ("__debug__" : Str)) = false := by decide) : PE X (.Name x pos) (tC v) :=
  fun _ _ _ H _ I h => ld_glob I hg hm ⟨v, H, I, r, h⟩ hd
theorem pe_bltn {x : Str} {v : V} {u : Value} {pos : Pos} (hg : Gl X x) (hm : X.mg x = none) (hv : bootBuiltins x = some u) (r : RelV v u) (hn : x ≠ "__name__" := by decide) (hd : (x == ("__debug__" : Str)) = false := by decide) : PE X (.Name x pos) (tC v) :=
  fun _ _ _ H _ I h => ld_blt I hg hm hv ⟨v, H, I, r, h⟩ hn hd

/-! ### arithmetic -/
/-- two ints -/
def t2I (ta tb : TE) (k : Int → Int → Hp → Prop) : St → Hp → Prop := fun σ H => ta σ H fun x H1 => tb σ H1 fun y H2 => ∃ i j, x = .int i ∧ y = .int j ∧ k i j H2
def tAdd (ta tb : TE) : TE := fun σ H Q => t2I ta tb (fun i j H2 => Q (.int (i + j)) H2) σ H
def tSub (ta tb : TE) : TE := fun σ H Q => t2I ta tb (fun i j H2 => Q (.int (i - j)) H2) σ H
/-- the left factor below 2^64 -/
def tMul (ta tb : TE) : TE := fun σ H Q => t2I ta tb (fun i j H2 => (-(2 ^ 64) < i ∧ i < 2 ^ 64) ∧ Q (.int (i * j)) H2) σ H
variable {a b : Expr} {ta tb : TE} {pos : Pos}
theorem pe_add (ha : PE X a ta) (hb : PE X b tb) : PE X (.BinOp a .Add b pos) (tAdd ta tb) := by
  intro pins s σ H Q I h
  refine wpAny_BinOp (bin ha hb I h fun v u s2 x y H2 I2 rx ry q => ?_)
  obtain ⟨i, j, rfl, rfl, q⟩ := q
  obtain ⟨t, rfl⟩ := rx
  obtain ⟨t', rfl⟩ := ry
  exact add_int ⟨.int _, H2, I2.tok _, ⟨_, rfl⟩, q⟩
theorem pe_sub (ha : PE X a ta) (hb : PE X b tb) : PE X (.BinOp a .Sub b pos) (tSub ta tb) := by
  intro pins s σ H Q I h
  refine wpAny_BinOp (bin ha hb I h fun v u s2 x y H2 I2 rx ry q => ?_)
  obtain ⟨i, j, rfl, rfl, q⟩ := q
  obtain ⟨t, rfl⟩ := rx
  obtain ⟨t', rfl⟩ := ry
  exact sub_int ⟨.int _, H2, I2.tok _, ⟨_, rfl⟩, q⟩
theorem pe_mul (ha : PE X a ta) (hb : PE X b tb) : PE X (.BinOp a .Mult b pos) (tMul ta tb) := by
  intro pins s σ H Q I h
  refine wpAny_BinOp (bin ha hb I h fun v u s2 x y H2 I2 rx ry q => ?_)
  obtain ⟨i, j, rfl, rfl, ⟨q1, q2⟩, q⟩ := q
  obtain ⟨t, rfl⟩ := rx
  obtain ⟨t', rfl⟩ := ry
  exact mul_int ⟨.int _, H2, I2.tok _, ⟨_, rfl⟩, q⟩ (.of_left (intBits_le_64 q1 q2))

/-! ### comparisons -/
def PC (X : Cx) (op : CmpOp) (a b : Expr) (t : TE) : Prop :=
  ∀ (pins : List (Addr × Obj)) (s : Shared) (σ : St) (H : Hp) (Q : VK), Inv X pins σ H s → t σ H Q →
    wpAny (model X.prog X.w) X.A (eval a X.env) (fun v s₁ => wpAny (model X.prog X.w) X.A (eval b X.env) (fun u s₂ => wpAny (model X.prog X.w) X.A (compareOp op v u) (EP X pins σ Q) X.xe s₂) X.xe s₁) X.xe s
theorem nobehind (b : Expr) {op : CmpOp} (h : op ≠ .In) (h2 : op ≠ .NotIn) : behindInMarks op b = false := by
  have e1 : (op == CmpOp.In) = false := by cases op <;> first | rfl | exact absurd rfl h
  have e2 : (op == CmpOp.NotIn) = false := by cases op <;> first | rfl | exact absurd rfl h2
  cases b <;> simp [behindInMarks, e1, e2]
def tCmp (p : Int → Int → Bool) (ta tb : TE) : TE := fun σ H Q => t2I ta tb (fun i j H2 => Q (.bl (p i j)) H2) σ H
abbrev tLt : TE → TE → TE := tCmp fun i j => decide (i < j)
abbrev tLe : TE → TE → TE := tCmp fun i j => decide (i ≤ j)
abbrev tGt : TE → TE → TE := tCmp fun i j => decide (j < i)
abbrev tGe : TE → TE → TE := tCmp fun i j => decide (j ≤ i)
abbrev tEqI : TE → TE → TE := tCmp fun i j => decide (i = j)
abbrev tNeI : TE → TE → TE := tCmp fun i j => !decide (i = j)
/-- a comparison of two ints, by its rule -/
theorem pc_int {op : CmpOp} {p : Int → Int → Bool} (ha : PE X a ta) (hb : PE X b tb)
    (rule : ∀ (i j : Int) (t u : Tok) (Q : Value → Shared → Prop) (s : Shared), Q (.bool (p i j)) s → wpAny (model X.prog X.w) X.A (compareOp op (.int i t) (.int j u)) Q X.xe s) : PC X op a b (tCmp p ta tb) := by
  intro pins s σ H Q I h
  refine bin ha hb I h fun v u s2 x y H2 I2 rx ry q => ?_
  obtain ⟨i, j, rfl, rfl, q⟩ := q
  obtain ⟨t, rfl⟩ := rx
  obtain ⟨t', rfl⟩ := ry
  exact rule i j t t' _ s2 ⟨.bl _, H2, I2, rfl, q⟩
theorem pc_lt (ha : PE X a ta) (hb : PE X b tb) : PC X .Lt a b (tLt ta tb) := pc_int ha hb fun _ _ _ _ _ _ h => lt_int h
theorem pc_le (ha : PE X a ta) (hb : PE X b tb) : PC X .LtE a b (tLe ta tb) := pc_int ha hb fun _ _ _ _ _ _ h => le_int h
theorem pc_gt (ha : PE X a ta) (hb : PE X b tb) : PC X .Gt a b (tGt ta tb) := pc_int ha hb fun _ _ _ _ _ _ h => gt_int h
theorem pc_ge (ha : PE X a ta) (hb : PE X b tb) : PC X .GtE a b (tGe ta tb) := pc_int ha hb fun _ _ _ _ _ _ h => ge_int h
theorem pc_eqI (ha : PE X a ta) (hb : PE X b tb) : PC X .Eq a b (tEqI ta tb) := pc_int ha hb fun _ _ _ _ _ _ h => eq_int (by rw [Bool.beq_eq_decide_eq]; exact h)
theorem pc_neI (ha : PE X a ta) (hb : PE X b tb) : PC X .NotEq a b (tNeI ta tb) := pc_int ha hb fun _ _ _ _ _ _ h => ne_int (by rw [bne, Bool.beq_eq_decide_eq]; exact h)
/-- is None -/
def tIsN (ta : TE) : TE := fun σ H Q => ta σ H fun x H1 => Q (.bl (decide (x = .non))) H1
def tNotN (ta : TE) : TE := fun σ H Q => ta σ H fun x H1 => Q (.bl (!decide (x = .non))) H1
theorem RelV.none_iff {x : V} {v : Value} (r : RelV x v) : (v == Value.none) = decide (x = .non) := by
  cases x with
  | non => cases r; rfl
  | bl _ => cases r; rfl
  | int _ => obtain ⟨t, rfl⟩ := r; rfl
  | str _ => obtain ⟨t, rfl⟩ := r; rfl
  | byt _ => obtain ⟨t, rfl⟩ := r; rfl
  | flt _ => obtain ⟨t, rfl⟩ := r; rfl
  | ref _ => cases r; rfl
  | ty _ => cases r; rfl
theorem pc_isN {j pos'} (ha : PE X a ta) : PC X .Is a (.Constant .none j pos') (tIsN ta) := by
  intro pins s σ H Q I h
  refine thn (ha pins s σ H _ I h) fun v s1 ⟨x, H1, I1, r1, q1⟩ => ?_
  exact Constant_none (is_none_gen ⟨.bl _, H1, I1, by rw [r1.none_iff]; rfl, q1⟩)
theorem pc_notN {j pos'} (ha : PE X a ta) : PC X .IsNot a (.Constant .none j pos') (tNotN ta) := by
  intro pins s σ H Q I h
  refine thn (ha pins s σ H _ I h) fun v s1 ⟨x, H1, I1, r1, q1⟩ => ?_
  exact Constant_none (isnot_none_gen ⟨.bl _, H1, I1, by rw [r1.none_iff]; rfl, q1⟩)
/-- a comparison as a value, as a test -/
def tB (t : TE) : TT := fun σ H Q => t σ H fun x H1 => ∃ c, x = .bl c ∧ Q c H1
theorem pe_cmp {op : CmpOp} {t : TE} (h : PC X op a b t) (h1 : behindInMarks op b = false := by first | exact nobehind _ (by decide) (by decide) | rfl) : PE X (.Compare a [op] [b] pos) t := fun pins s σ H Q I hw => wpAny_Compare1 (h pins s σ H Q I hw) h1
theorem pt_cmp {op : CmpOp} {t : TE} (h : PC X op a b t) (h1 : behindInMarks op b = false := by first | exact nobehind _ (by decide) (by decide) | rfl) : PT X (.Compare a [op] [b] pos) (tB t) := by
  intro pins s σ H Q I hw
  refine wpAny_isTrue_Compare1 (thn (h pins s σ H _ I hw) fun v s1 h1 => thn h1 fun u s2 h2 => thn h2 fun c s3 ⟨x, H1, I1, r1, q1⟩ => ?_) h1
  obtain ⟨d, rfl, q⟩ := q1
  cases r1
  exact wpAny_truthy_bool ⟨H1, I1, q⟩
/-- an expression whose value is a bool, as a test -/
theorem pt_val {e : Expr} {t : TE} (h : PE X e t) (he : ∀ whole, isTrue e X.env whole = (do let v ← whole; standAt e.pos; holding [v] (truthy v)) := by intro _; rfl) : PT X e (tB t) := by
  intro pins s σ H Q I hw
  refine isTrue_plain (thn (h pins s σ H _ I hw) fun v s1 ⟨x, H1, I1, r1, q1⟩ => ?_) (he _)
  obtain ⟨d, rfl, q⟩ := q1
  cases r1
  exact wpAny_truthy_bool ⟨H1, I1, q⟩

/-! ### and, or, not -/
variable {tA tB' : TT} {rest : List Expr}
def tAnd (t u : TT) : TT := fun σ H Q => t σ H fun c H1 => if c = true then u σ H1 Q else Q false H1
def tOr (t u : TT) : TT := fun σ H Q => t σ H fun c H1 => if c = true then Q true H1 else u σ H1 Q
def tNot (t : TT) : TT := fun σ H Q => t σ H fun c H1 => Q (!c) H1
theorem pw_and1 (ha : PT X a tA) : PW X (.BoolOp .And [a] pos) tA := by
  intro wh pins s σ H Q I h
  refine isTrue_and (thn (ha pins s σ H Q I h) fun c s1 e => ?_)
  cases c with
  | true => exact isTrue_and_nil e
  | false => exact e
theorem pw_or1 (ha : PT X a tA) : PW X (.BoolOp .Or [a] pos) tA := by
  intro wh pins s σ H Q I h
  refine isTrue_or (thn (ha pins s σ H Q I h) fun c s1 e => ?_)
  cases c with
  | false => exact isTrue_or_nil e
  | true => exact e
theorem pw_and (ha : PT X a tA) (hb : PW X (.BoolOp .And (b :: rest) pos) tB') : PW X (.BoolOp .And (a :: b :: rest) pos) (tAnd tA tB') := by
  intro wh pins s σ H Q I h
  refine isTrue_and (thn (ha pins s σ H _ I h) fun c s1 ⟨H1, I1, q1⟩ => ?_)
  cases c with
  | true => exact hb wh pins s1 σ H1 Q I1 q1
  | false => exact ⟨H1, I1, q1⟩
theorem pw_or (ha : PT X a tA) (hb : PW X (.BoolOp .Or (b :: rest) pos) tB') : PW X (.BoolOp .Or (a :: b :: rest) pos) (tOr tA tB') := by
  intro wh pins s σ H Q I h
  refine isTrue_or (thn (ha pins s σ H _ I h) fun c s1 ⟨H1, I1, q1⟩ => ?_)
  cases c with
  | true => exact ⟨H1, I1, q1⟩
  | false => exact hb wh pins s1 σ H1 Q I1 q1
theorem pt_not (ha : PT X a tA) : PT X (.UnaryOp .Not a pos) (tNot tA) := by
  intro pins s σ H Q I h
  exact isTrue_not (ha pins s σ H (fun c H1 => Q (!c) H1) I h)
/-- .. as values (bools) -/
def tAndV (ta tb : TE) : TE := fun σ H Q => ta σ H fun x H1 => ∃ c, x = .bl c ∧ if c = true then tb σ H1 Q else Q (.bl false) H1
def tOrV (ta tb : TE) : TE := fun σ H Q => ta σ H fun x H1 => ∃ c, x = .bl c ∧ if c = true then Q (.bl true) H1 else tb σ H1 Q
def tNotV (ta : TE) : TE := fun σ H Q => ta σ H fun x H1 => ∃ c, x = .bl c ∧ Q (.bl (!c)) H1
theorem pe_one {op} {t : TE} (h : PE X a t) : PE X (.BoolOp op [a] pos) t := fun pins s σ H Q I hw => BoolOp_one (h pins s σ H Q I hw)
theorem pe_and (ha : PE X a ta) (hb : PE X (.BoolOp .And (b :: rest) pos) tb) : PE X (.BoolOp .And (a :: b :: rest) pos) (tAndV ta tb) := by
  intro pins s σ H Q I h
  refine BoolOp_and (thn (ha pins s σ H _ I h) fun v s1 ⟨x, H1, I1, r1, q1⟩ => ?_)
  obtain ⟨c, rfl, q1⟩ := q1
  cases r1
  refine wpAny_truthy_bool ?_
  cases c with
  | true => exact hb pins s1 σ H1 Q I1 q1
  | false => exact ⟨.bl false, H1, I1, rfl, q1⟩
theorem pe_or (ha : PE X a ta) (hb : PE X (.BoolOp .Or (b :: rest) pos) tb) : PE X (.BoolOp .Or (a :: b :: rest) pos) (tOrV ta tb) := by
  intro pins s σ H Q I h
  refine BoolOp_or (thn (ha pins s σ H _ I h) fun v s1 ⟨x, H1, I1, r1, q1⟩ => ?_)
  obtain ⟨c, rfl, q1⟩ := q1
  cases r1
  refine wpAny_truthy_bool ?_
  cases c with
  | false => exact hb pins s1 σ H1 Q I1 q1
  | true => exact ⟨.bl true, H1, I1, rfl, q1⟩
theorem pe_not (ha : PE X a ta) : PE X (.UnaryOp .Not a pos) (tNotV ta) := by
  intro pins s σ H Q I h
  refine UnaryOp_ (thn (ha pins s σ H _ I h) fun v s1 ⟨x, H1, I1, r1, q1⟩ => ?_)
  obtain ⟨c, rfl, q1⟩ := q1
  cases r1
  exact not_of (wpAny_truthy_bool ⟨.bl (!c), H1, I1, rfl, q1⟩)
/-- a if t else b -/
def tIf (t : TT) (ta tb : TE) : TE := fun σ H Q => t σ H fun c H1 => if c = true then ta σ H1 Q else tb σ H1 Q
theorem pe_ifExp {c : Expr} (hc : PT X c tA) (ha : PE X a ta) (hb : PE X b tb) : PE X (.IfExp c a b pos) (tIf tA ta tb) := by
  intro pins s σ H Q I h
  refine wpAny_IfExp (thn (hc pins s σ H _ I h) fun d s1 ⟨H1, I1, q1⟩ => ?_)
  cases d with
  | true => exact ha pins s1 σ H1 Q I1 q1
  | false => exact hb pins s1 σ H1 Q I1 q1
end
end L2

namespace L2
open PySem PySem.Spec PyProof.Rows

/-! ### a list, a tuple that is read: tracked, frozen, or an object of the module -/
def SqL (K : PySem.W.Frag) (H : Hp) (a : Addr) (xs : List V) : Prop :=
  Rd H a (.lst xs) ∨
    ∃ (o : Obj) (its : Array Value) (n : Nat), K.lookup a = some o ∧ o.cls = .type "list" ∧ o.dict = none ∧ o.data = .seq its n ∧ its.size ≤ sizeLine ∧ Vals xs its.toList
def SqT (K : PySem.W.Frag) (H : Hp) (a : Addr) (xs : List V) : Prop :=
  Rd H a (.tup xs) ∨
    ∃ (o : Obj) (its : Array Value) (n : Nat), K.lookup a = some o ∧ o.cls = .type "tuple" ∧ o.data = .seq its n ∧ its.size ≤ sizeLine ∧ Vals xs its.toList
def absV : Value → Option V
  | .none => some .non
  | .bool b => some (.bl b)
  | .int i _ => some (.int i)
  | .str x _ => some (.str x)
  | .bytes b _ => some (.byt b)
  | .float b _ => some (.flt b)
  | .ref a => some (.ref a)
  | .type n => some (.ty n)
  | _ => none
theorem RelV.abs {x : V} {u : Value} (r : RelV x u) : absV u = some x := by
  cases x with
  | non => cases r; rfl
  | bl _ => cases r; rfl
  | int _ => obtain ⟨t, rfl⟩ := r; rfl
  | str _ => obtain ⟨t, rfl⟩ := r; rfl
  | byt _ => obtain ⟨t, rfl⟩ := r; rfl
  | flt _ => obtain ⟨t, rfl⟩ := r; rfl
  | ref _ => cases r; rfl
  | ty _ => cases r; rfl
theorem RelV.inj {x y : V} {u : Value} (r : RelV x u) (q : RelV y u) : x = y := Option.some.inj (r.abs.symm.trans q.abs)
theorem Vals.inj : ∀ {xs ys : List V} {us : List Value}, Vals xs us → Vals ys us → xs = ys
  | _, _, _, .nil, .nil => rfl
  | _, _, _, .cons r t, .cons r' t' => by rw [r.inj r', Vals.inj t t']
section
variable {X : Cx} {pins : List (Addr × Obj)} {σ : St} {H : Hp} {s : Shared} {a : Addr} {xs ys : List V}
theorem SqL.of {K : PySem.W.Frag} (h : H a = some (.lst xs)) : SqL K H a xs := .inl (.inl h)
theorem SqT.of {K : PySem.W.Frag} (h : H a = some (.tup xs)) : SqT K H a xs := .inl (.inl h)
theorem Inv.list (I : Inv X pins σ H s) (h : SqL X.K H a xs) : ∃ its : List Value, Vals xs its ∧ PlainL s.heap a its.toArray ∧ xs.length ≤ sizeLine := by
  rcases h with h | ⟨o, its, n, hk, hc, hd, hs, hz, r⟩
  · obtain ⟨z, its, n, r, e⟩ := h.ok I.hok
    exact ⟨its, r, ⟨_, n, e, rfl, rfl, rfl⟩, z⟩
  · refine ⟨its.toList, r, ⟨o, n, I.kIn a o hk, hc, hd, by simpa using hs⟩, ?_⟩
    have e := r.length
    simp only [Array.length_toList] at e
    omega
theorem Inv.tuple (I : Inv X pins σ H s) (h : SqT X.K H a xs) : ∃ its : List Value, Vals xs its ∧ IsTup s.heap a its.toArray ∧ xs.length ≤ sizeLine := by
  rcases h with h | ⟨o, its, n, hk, hc, hs, hz, r⟩
  · obtain ⟨z, its, r, p⟩ := h.ok I.hok
    exact ⟨its, r, p, z⟩
  · refine ⟨its.toList, r, ⟨o, I.kIn a o hk, hc, n, by simpa using hs⟩, ?_⟩
    have e := r.length
    simp only [Array.length_toList] at e
    omega
theorem Inv.list_inj (I : Inv X pins σ H s) (h : SqL X.K H a xs) (h' : SqL X.K H a ys) : xs = ys := by
  obtain ⟨its, r, ⟨o, n, e, _, _, d⟩, _⟩ := I.list h
  obtain ⟨its', r', ⟨o', n', e', _, _, d'⟩, _⟩ := I.list h'
  rw [e] at e'; cases e'
  rw [d] at d'
  injection d' with d1 _
  have : its = its' := by simpa using congrArg Array.toList d1
  subst this
  exact r.inj r'
theorem Inv.tuple_inj (I : Inv X pins σ H s) (h : SqT X.K H a xs) (h' : SqT X.K H a ys) : xs = ys := by
  obtain ⟨its, r, ⟨o, e, _, n, d⟩, _⟩ := I.tuple h
  obtain ⟨its', r', ⟨o', e', _, n', d'⟩, _⟩ := I.tuple h'
  rw [e] at e'; cases e'
  rw [d] at d'
  injection d' with d1 _
  have : its = its' := by simpa using congrArg Array.toList d1
  subst this
  exact r.inj r'
end

/-! ### another wish about exceptions -/
abbrev Cx.wish (X : Cx) (E : Value → Shared → Prop) : Cx := { X with xe := E }
/-- no exception leaves -/
abbrev Cx.nox (X : Cx) : Cx := X.wish fun _ _ => False
theorem Cx.Ok.wish {X : Cx} (ok : X.Ok) (E : Value → Shared → Prop) : (X.wish E).Ok :=
  ⟨ok.mod, ok.kind, ok.glob, ok.blt, ok.above, ok.inj, ok.has, ok.cab, ok.hd, ok.frames, ok.stk, ok.exf, ok.bs, ok.bsz, ok.noex, ok.exfs, ok.funs, ok.frf⟩
theorem Cx.Ok.unwish {X : Cx} {E : Value → Shared → Prop} (ok : (X.wish E).Ok) : X.Ok :=
  ⟨ok.mod, ok.kind, ok.glob, ok.blt, ok.above, ok.inj, ok.has, ok.cab, ok.hd, ok.frames, ok.stk, ok.exf, ok.bs, ok.bsz, ok.noex, ok.exfs, ok.funs, ok.frf⟩
section
variable {X : Cx} {pins : List (Addr × Obj)} {σ : St} {H : Hp} {s : Shared} {E : Value → Shared → Prop}
theorem Inv.wish (I : Inv X pins σ H s) (E : Value → Shared → Prop) : Inv (X.wish E) pins σ H s := ⟨I.ok.wish E, I.os, I.bare, I.base, I.loc, I.cell, I.free, I.freeC, I.pin, I.hok, I.len⟩
theorem Inv.unwish (I : Inv (X.wish E) pins σ H s) : Inv X pins σ H s := ⟨I.ok.unwish, I.os, I.bare, I.base, I.loc, I.cell, I.free, I.freeC, I.pin, I.hok, I.len⟩
theorem SP.unwish {D : Ends} {f : Flow} {s' : Shared} (h : SP (X.wish E) pins D f s') : SP X pins D f s' := by
  cases f with
  | next => obtain ⟨σ', H', I, q⟩ := h; exact ⟨σ', H', I.unwish, q⟩
  | brk => obtain ⟨σ', H', I, q⟩ := h; exact ⟨σ', H', I.unwish, q⟩
  | cont => obtain ⟨σ', H', I, q⟩ := h; exact ⟨σ', H', I.unwish, q⟩
  | ret u => obtain ⟨v, σ', H', I, r, q⟩ := h; exact ⟨v, σ', H', I.unwish, r, q⟩
theorem PE.nox {e : Expr} {t : TE} (h : PE X.nox e t) : PE X e t := fun pins s σ H Q I hw =>
  wpAny_mono (h pins s σ H Q (I.wish _) hw) (fun _ _ ⟨v, H', I', r, q⟩ => ⟨v, H', I'.unwish, r, q⟩) fun _ _ z => False.elim z
theorem PT.nox {e : Expr} {t : TT} (h : PT X.nox e t) : PT X e t := fun pins s σ H Q I hw =>
  wpAny_mono (h pins s σ H Q (I.wish _) hw) (fun _ _ ⟨H', I', q⟩ => ⟨H', I'.unwish, q⟩) fun _ _ z => False.elim z
theorem PSs.nox {st : List Stmt} {t : TS} (h : PSs X.nox st t) : PSs X st t := fun pins s σ H D I hw =>
  wpAny_mono (h pins s σ H D (I.wish _) hw) (fun _ _ q => q.unwish) fun _ _ z => False.elim z
end

/-! ### blocks and small statements -/
section
variable {X : Cx} {st : Stmt} {rest : List Stmt} {t u : TS} {e : Expr} {te : TE} {pos : Pos}
def tNext : TS := fun D σ H => D.nx σ H
def tSeq (t u : TS) : TS := fun D σ H => t { D with nx := u D } σ H
theorem pss_nil : PSs X [] tNext := fun _ _ σ H _ I h => wpAny_execs_nil ⟨σ, H, I, h⟩
theorem pss_cons (h1 : PS X st t) (h2 : PSs X rest u) : PSs X (st :: rest) (tSeq t u) := by
  intro pins s σ H D I h
  refine wpAny_execs_cons (thn (h1 pins s σ H { D with nx := u D } I h) fun f s1 q => ?_)
  cases f with
  | next =>
    obtain ⟨σ', H', I', q⟩ := q
    exact h2 pins s1 σ' H' D I' q
  | ret v => exact q
  | brk => exact q
  | cont => exact q
theorem pss_one (h1 : PS X st t) : PSs X [st] t := by
  intro pins s σ H D I h
  refine wpAny_execs_cons (thn (h1 pins s σ H D I h) fun f s1 q => ?_)
  cases f with
  | next => exact wpAny_execs_nil q
  | ret v => exact q
  | brk => exact q
  | cont => exact q
def tBreak : TS := fun D σ H => D.bk σ H
def tCont : TS := fun D σ H => D.ct σ H
theorem ps_pass : PS X (.Pass pos) tNext := fun _ _ σ H _ I h => wpAny_Pass ⟨σ, H, I, h⟩
theorem ps_break : PS X (.Break pos) tBreak := fun _ _ σ H _ I h => wpAny_Break ⟨σ, H, I, h⟩
theorem ps_continue : PS X (.Continue pos) tCont := fun _ _ σ H _ I h => wpAny_Continue ⟨σ, H, I, h⟩
/-- in a def's body nothing is shown -/
theorem Inv.quiet {pins : List (Addr × Obj)} {σ : St} {H : Hp} {s : Shared} (I : Inv X pins σ H s) : interactive X.env = false := by simp [interactive, I.ok.kind]
/-- a docstring -/
theorem ps_doc {x j pos pos'} : PS X (.Expr (.Constant (.str x) j pos) pos') tNext := fun _ s σ H _ I h => wpAny_Expr (Calls.Constant_str (show SP X _ _ .next { s with toks := s.toks + 1 } from ⟨σ, H, I.tok _, h⟩)) I.quiet
/-- an expression whose value is dropped -/
def tDrop (te : TE) : TS := fun D σ H => te σ H fun _ H1 => D.nx σ H1
theorem ps_expr (he : PE X e te) (hs : swapsWith e none pos.line X.env = pure false := by rfl) : PS X (.Expr e pos) (tDrop te) := by
  intro pins s σ H D I h
  exact wpAny_Expr_any (thn (he pins s σ H _ I h) fun v s1 ⟨x, H1, I1, r1, q1⟩ => ⟨σ, H1, I1, q1⟩) I.quiet hs
def tRet (te : TE) : TS := fun D σ H => te σ H D.rt
theorem ps_ret (he : PE X e te) : PS X (.Return (some e) pos) (tRet te) := by
  intro pins s σ H D I h
  exact wpAny_Return_some (thn (he pins s σ H _ I h) fun v s1 ⟨x, H1, I1, r1, q1⟩ => ⟨x, σ, H1, I1, r1, q1⟩)
def tRetN : TS := fun D _ H => D.rt .non H
theorem ps_retN : PS X (.Return none pos) tRetN := fun _ _ σ H _ I h => wpAny_Return_none ⟨.non, σ, H, I, rfl, h⟩
def tIfS (c : TT) (t u : TS) : TS := fun D σ H => c σ H fun b H1 => if b = true then t D σ H1 else u D σ H1
theorem ps_if {c : Expr} {a b : List Stmt} {tc : TT} (hc : PT X c tc) (ha : PSs X a t) (hb : PSs X b u) : PS X (.If c a b pos) (tIfS tc t u) := by
  intro pins s σ H D I h
  refine wpAny_If (thn (hc pins s σ H _ I h) fun d s1 ⟨H1, I1, q1⟩ => ?_)
  cases d with
  | true => exact ha pins s1 σ H1 D I1 q1
  | false => exact hb pins s1 σ H1 D I1 q1
/-- code that the proof never comes to -/
def tNever : TS := fun _ _ _ => False
theorem ps_never : PS X st tNever := fun _ _ _ _ _ _ h => h.elim
theorem pss_never {sts : List Stmt} : PSs X sts tNever := fun _ _ _ _ _ _ h => h.elim
end

/-! ### targets -/
abbrev TG := V → St → Hp → (St → Hp → Prop) → Prop
abbrev TGs := List V → St → Hp → (St → Hp → Prop) → Prop
def PG (X : Cx) (target : Expr) (t : TG) : Prop :=
  ∀ (pins : List (Addr × Obj)) (s : Shared) (σ : St) (H : Hp) (v : V) (u : Value) (Q : St → Hp → Prop), Inv X pins σ H s → RelV v u → t v σ H Q →
    wpAny (model X.prog X.w) X.A (assign target X.env u) (fun _ s' => ∃ σ' H', Inv X pins σ' H' s' ∧ Q σ' H') X.xe s
/-- several targets, one after another -/
def PGs (X : Cx) (ts : List Expr) (t : TGs) : Prop :=
  ∀ (pins : List (Addr × Obj)) (s : Shared) (σ : St) (H : Hp) (vs : List V) (us : List Value) (Q : St → Hp → Prop), Inv X pins σ H s → Vals vs us → t vs σ H Q →
    wpAny (model X.prog X.w) X.A (assignInOrder ((assignEach ts X.env).map (·.2)) us) (fun _ s' => ∃ σ' H', Inv X pins σ' H' s' ∧ Q σ' H') X.xe s
/-- o[i] = v, by values -/
abbrev TSet := V → V → V → Hp → (Hp → Prop) → Prop
def PSet (X : Cx) (t : TSet) : Prop :=
  ∀ (pins : List (Addr × Obj)) (s : Shared) (σ : St) (H : Hp) (o i v : V) (ov iv u : Value) (Q : Hp → Prop), Inv X pins σ H s → RelV o ov → RelV i iv → RelV v u → t o i v H Q →
    wpAny (model X.prog X.w) X.A (setItem ov iv u) (fun _ s' => ∃ H', Inv X pins σ H' s' ∧ Q H') X.xe s
/-- a op= b, by values -/
abbrev TIp := V → V → Hp → VK → Prop
def PIp (X : Cx) (op : Operator) (t : TIp) : Prop :=
  ∀ (pins : List (Addr × Obj)) (s : Shared) (σ : St) (H : Hp) (x y : V) (v u : Value) (Q : VK), Inv X pins σ H s → RelV x v → RelV y u → t x y H Q →
    wpAny (model X.prog X.w) X.A (inplaceOp op v u) (EP X pins σ Q) X.xe s
section
variable {X : Cx} {pos : Pos}
def gName (i : Nat) : TG := fun v σ H Q => Q (σ.set i (some v)) H
theorem pg_name {i : Nat} {x : Str} (hN : X.N.Nodup) (hi : X.N[i]? = some x) (hx : Loc X.env.scope x) (hf : X.fn x = true ∨ X.env.scope.names.lookup x = some .local := by first | exact .inl rfl | exact .inr rfl | assumption) : PG X (.Name x pos) (gName i) := by
  intro pins s σ H v u Q I r h
  exact wpAny_assign_Name (store_ok I hN hi hx r (fun s' I' => ⟨_, H, I', h⟩) hf)
def gNil : TGs := fun vs σ H Q => vs = [] ∧ Q σ H
def gCons (t : TG) (u : TGs) : TGs := fun vs σ H Q => ∃ v r, vs = v :: r ∧ t v σ H fun σ' H' => u r σ' H' Q
theorem pgs_nil : PGs X [] gNil := by
  intro pins s σ H vs us Q I r h
  obtain ⟨e, h⟩ := h
  subst e
  cases r
  exact assignInOrder_nil ⟨σ, H, I, h⟩
theorem pgs_cons {e : Expr} {es : List Expr} {t : TG} {u : TGs} (h1 : PG X e t) (h2 : PGs X es u)
    (hs : (assignEach (e :: es) X.env).map (·.2) = assign e X.env :: (assignEach es X.env).map (·.2) := by rfl) : PGs X (e :: es) (gCons t u) := by
  intro pins s σ H vs us Q I r h
  obtain ⟨v, vr, e1, h⟩ := h
  subst e1
  cases r with
  | cons r rr =>
    rw [hs]
    refine assignInOrder_cons (thn (h1 pins s σ H _ _ _ I r h) fun _ s1 ⟨σ1, H1, I1, q1⟩ => ?_)
    exact h2 pins s1 σ1 H1 _ _ Q I1 rr q1
/-- (a, b, ..) = a tuple of that length -/
def gTup (K : PySem.W.Frag) (n : Nat) (t : TGs) : TG := fun v σ H Q => ∃ a xs, v = .ref a ∧ SqT K H a xs ∧ xs.length = n ∧ t xs σ H Q
theorem pg_tup {es : List Expr} {k : Nat} {t : TGs} {n : Nat} (hc : X.calm = true) (h : PGs X es t)
    (hn : (assignEach es X.env).length = n := by rfl) (hst : (assignEach es X.env).findIdx? (·.1) = none := by rfl) : PG X (.Tuple es k pos) (gTup X.K n t) := by
  intro pins s σ H v u Q I r hw
  obtain ⟨a, xs, e1, hq, hl, hw⟩ := hw
  subst e1
  cases r
  obtain ⟨its, rv, ht, hz⟩ := I.tuple hq
  refine assign_Tuple_tuple (I.ok.hd hc) ht (by simp [hn, ← hl, rv.length]) hst fun h' hx => ?_
  have I1 : Inv X pins σ H { s with heap := h' } := I.kept (t' := s.toks) fun b o e => hx b o (Nat.ne_of_lt (Heap.lt_size e)) e
  exact h pins _ σ H xs _ Q I1 (by simpa using rv) hw
/-- o[i] = .. -/
def gSub (to ti : TE) (t : TSet) : TG := fun v σ H Q => to σ H fun o H1 => ti σ H1 fun i H2 => t o i v H2 fun H3 => Q σ H3
theorem pg_sub {o i : Expr} {to ti : TE} {t : TSet} (ho : PE X o to) (hi : PE X i ti) (hs : PSet X t)
    (ha : ∀ v, assign (.Subscript o i pos) X.env v = (do
      let ov ← holding [v] (eval o X.env)
      let iv ← holding [v, ov] (eval i X.env)
      standAt pos
      holding [v, ov, iv] (setItem ov iv v)
      release [v, ov, iv] []) := by intro _; rfl) : PG X (.Subscript o i pos) (gSub to ti t) := by
  intro pins s σ H v u Q I r h
  rw [ha]
  refine wpAny_bind (wpAny_holding (thn (ho pins s σ H _ I h) fun ov s1 ⟨x, H1, I1, r1, q1⟩ => ?_))
  refine wpAny_bind (wpAny_holding (thn (hi pins s1 σ H1 _ I1 q1) fun iv s2 ⟨y, H2, I2, r2, q2⟩ => ?_))
  refine wpAny_bind (wpAny_standAt (wpAny_bind (wpAny_holding (thn (hs pins s2 σ H2 x y v ov iv u _ I2 r1 r2 r q2) fun _ s3 ⟨H3, I3, q3⟩ => ?_))))
  exact wpAny_release ⟨σ, H3, I3, q3⟩
/-- target = value -/
def tAsg (te : TE) (g : TG) : TS := fun D σ H => te σ H fun x H1 => g x σ H1 D.nx
theorem ps_asg {tg e : Expr} {te : TE} {g : TG} (he : PE X e te) (hg : PG X tg g) (hs : swapsWithSole [tg] e pos.line X.env = pure false := by rfl) (hw : swappedStores [tg] e X.env = pure none := by rfl)
    (h1 : (assignEach [tg] X.env).map (·.2) = [assign tg X.env] := by rfl) : PS X (.Assign [tg] e pos) (tAsg te g) := by
  intro pins s σ H D I h
  refine wpAny_Assign_stores (thn (he pins s σ H _ I h) fun v s1 ⟨x, H1, I1, r1, q1⟩ => ?_) hs hw
  rw [h1]
  exact thn (hg pins s1 σ H1 x v _ I1 r1 q1) fun _ s2 q => q
/-- name = value -/
theorem ps_set {i : Nat} {x : Str} {e : Expr} {te : TE} {pos' : Pos} (hN : X.N.Nodup) (hi : X.N[i]? = some x) (hx : Loc X.env.scope x) (he : PE X e te) (hs : swapsWith e (some (.Name x pos')) pos.line X.env = pure false := by rfl) (hf : X.fn x = true ∨ X.env.scope.names.lookup x = some .local := by first | exact .inl rfl | exact .inr rfl | assumption) :
    PS X (.Assign [.Name x pos'] e pos) (tAsg te (gName i)) := by
  intro pins s σ H D I h
  refine wpAny_Assign_Name (thn (he pins s σ H _ I h) fun v s1 ⟨y, H1, I1, r1, q1⟩ => ?_) hs
  exact store_ok I1 hN hi hx r1 (fun s2 I2 => ⟨_, H1, I2, q1⟩) hf
/-- a, b = x, y with plain local names: stored from the right; the pair itself is not tracked (the opening rows as in PyProof/Rows/TupAssign.lean:23) -/
def tPar (i j : Nat) (ta : TA) : TS := fun D σ H => ta σ H fun vs H1 => ∃ v w, vs = [v, w] ∧ D.nx ((σ.set i (some v)).set j (some w)) H1
theorem ps_par {i j : Nat} {x y : Str} {a b : Expr} {ta : TA} {px py pt : Pos} {kt k2 pt2} (hc : X.calm = true) (hN : X.N.Nodup) (hi : X.N[i]? = some x) (hj : X.N[j]? = some y) (hij : i ≠ j)
    (hx : X.env.scope.names.lookup x = some .local) (hy : X.env.scope.names.lookup y = some .local) (ha : PA X [a, b] ta)
    (hw : swappedStores [.Tuple [.Name x px, .Name y py] kt pt] (.Tuple [a, b] k2 pt2) X.env = pure (some [x, y]))
    (hs : swapsWithSole [.Tuple [.Name x px, .Name y py] kt pt] (.Tuple [a, b] k2 pt2) pos.line X.env = pure false := by rfl) :
    PS X (.Assign [.Tuple [.Name x px, .Name y py] kt pt] (.Tuple [a, b] k2 pt2) pos) (tPar i j ta) := by
  intro pins s σ H D I h
  rw [exec_Assign_arm]
  refine wpAny_bind (wpAny_standAt ?_)
  rw [hs]
  refine wpAny_bind (wpAny_pure ?_)
  rw [if_neg (by decide)]
  refine wpAny_bind (Tuple_ (thn (ha _ pins s σ H _ I h) fun us s1 ⟨vs, H1, I1, r1, q1⟩ => ?_))
  obtain ⟨v, w, e1, q1⟩ := q1
  subst e1
  obtain ⟨u1, u2, rfl, rv, rw'⟩ : ∃ u1 u2, us = [u1, u2] ∧ RelV v u1 ∧ RelV w u2 := by
    cases r1 with
    | cons p q =>
      cases q with
      | cons p' q' =>
        cases q'
        exact ⟨_, _, rfl, p, p'⟩
  refine wpAny_newObj_type ?_ (by show 2 ≤ sizeLine; decide)
  have I2 : Inv X pins σ H1 { s1 with heap := s1.heap.push { cls := .type "tuple", data := .seq [u1, u2].toArray } } := I1.kept (t' := s1.toks) fun b o e => Heap.get?_push_of_some _ e
  rw [hw]
  refine wpAny_bind (wpAny_pure ?_)
  show wpAny (model X.prog X.w) X.A (do rule "assign.swapped-stores"; let items ← unpackItems (.ref s1.heap.objs.size) 2 none; assignInOrder [fun v => bindName X.env y v, fun v => bindName X.env x v] items.reverse; pure Flow.next) _ _ _
  refine wpAny_bind (wpAny_rule (wpAny_bind (unpackItems_tuple (items := #[u1, u2]) (I.ok.hd hc) (IsTup.new s1.heap _) fun h' hx' => ?_)))
  have I3 := I2.kept (h' := h') (t' := s1.toks) fun b o e => hx' b o (Nat.ne_of_lt (Heap.lt_size e)) e
  show wpAny _ _ (assignInOrder [fun v => bindName X.env y v, fun v => bindName X.env x v] [u2, u1] >>= fun _ => pure Flow.next) _ _ _
  refine wpAny_bind (assignInOrder_cons (wpAny_bindName (store_ok I3 hN hj (.inl hy) rw' (fun s2 I4 => ?_) (.inr hy))))
  refine assignInOrder_cons (wpAny_bindName (store_ok I4 hN hi (.inl hx) rv (fun s3 I5 => assignInOrder_nil (wpAny_pure ?_)) (.inr hx)))
  rw [List.set_comm _ _ (Ne.symm hij)] at I5
  exact ⟨_, H1, I5, q1⟩
/-- name op= e -/
def tAug (i : Nat) (te : TE) (ti : TIp) : TS := fun D σ H => ∃ x, σ[i]? = some (some x) ∧ te σ H fun y H1 => ti x y H1 fun z H2 => D.nx (σ.set i (some z)) H2
theorem ps_aug {i : Nat} {x : Str} {e : Expr} {te : TE} {op : Operator} {ti : TIp} {pos' : Pos} (hN : X.N.Nodup) (hi : X.N[i]? = some x) (hx : Loc X.env.scope x) (he : PE X e te) (ho : PIp X op ti) (hf : X.fn x = true ∨ X.env.scope.names.lookup x = some .local := by first | exact .inl rfl | exact .inr rfl | assumption) :
    PS X (.AugAssign (.Name x pos') op e pos) (tAug i te ti) := by
  intro pins s σ H D I h
  obtain ⟨v, e1, h⟩ := h
  obtain ⟨m, hn, hl⟩ := I.loc
  have vis : Vis X.env.scope x := by rcases hx with k | k; exact .inl k; exact .inr (.inl k)
  obtain ⟨u, r, l⟩ := hl i x v hi e1 vis
  refine wpAny_AugAssign_Name ?_
  have go : wpAny (model X.prog X.w) X.A (eval e X.env) (fun w s₂ => wpAny (model X.prog X.w) X.A (inplaceOp op u w) (fun r s₃ => wpAny (model X.prog X.w) X.A (storeName X.env x r) (fun _ => SP X pins D .next) X.xe s₃) X.xe s₂) X.xe s := by
    refine thn (he pins s σ H _ I h) fun w s1 ⟨y, H1, I1, r1, q1⟩ => ?_
    refine thn (ho pins s1 σ H1 v y u w _ I1 r r1 q1) fun z s2 ⟨zv, H2, I2, r2, q2⟩ => ?_
    exact store_ok I2 hN hi hx r2 (fun s3 I3 => ⟨_, H2, I3, q2⟩) hf
  rcases l with ⟨hk, hm⟩ | ⟨hk, c, hc, hcell⟩
  · exact wpAny_loadName_local I.ok.kind hk hn hm go
  · rcases hk with hk | hk
    · exact wpAny_loadName_cell I.ok.kind hk hc hcell go
    · rcases hx with k | k
      · have : X.env.scope.names.lookup x = some .free := hk
        rw [k] at this; cases this
      · have : X.env.scope.names.lookup x = some .free := hk
        rw [k] at this; cases this
/-- o[i] op= e -/
def tAugS (to ti te : TE) (tget : V → V → Hp → VK → Prop) (tip : TIp) (tset : TSet) : TS := fun D σ H => to σ H fun o H1 => ti σ H1 fun i H2 => tget o i H2 fun x H3 => te σ H3 fun y H4 => tip x y H4 fun z H5 => tset o i z H5 fun H6 => D.nx σ H6
/-- o[i], by values -/
def PGet (X : Cx) (t : V → V → Hp → VK → Prop) : Prop :=
  ∀ (pins : List (Addr × Obj)) (s : Shared) (σ : St) (H : Hp) (o i : V) (ov iv : Value) (Q : VK), Inv X pins σ H s → RelV o ov → RelV i iv → t o i H Q →
    wpAny (model X.prog X.w) X.A (getItem ov iv) (EP X pins σ Q) X.xe s
theorem ps_augS {o i e : Expr} {to ti te : TE} {tget : V → V → Hp → VK → Prop} {tip : TIp} {tset : TSet} {op : Operator} {tpos : Pos} (ho : PE X o to) (hi : PE X i ti) (hg : PGet X tget) (he : PE X e te) (hp : PIp X op tip) (hs : PSet X tset)
    (ha : ∀ ov iv new, augStore i ov iv new = (do holding [new, ov, iv] (setItem ov iv new); release [new, ov, iv] []; pure .next) := by intros; rfl) : PS X (.AugAssign (.Subscript o i tpos) op e pos) (tAugS to ti te tget tip tset) := by
  intro pins s σ H D I h
  refine wpAny_AugAssign_SubscriptAny (thn (ho pins s σ H _ I h) fun ov s1 ⟨x1, H1, I1, r1, q1⟩ => ?_) ha
  refine thn (hi pins s1 σ H1 _ I1 q1) fun iv s2 ⟨x2, H2, I2, r2, q2⟩ => ?_
  refine thn (hg pins s2 σ H2 x1 x2 ov iv _ I2 r1 r2 q2) fun old s3 ⟨x3, H3, I3, r3, q3⟩ => ?_
  refine thn (he pins s3 σ H3 _ I3 q3) fun v s4 ⟨x4, H4, I4, r4, q4⟩ => ?_
  refine thn (hp pins s4 σ H4 x3 x4 old v _ I4 r3 r4 q4) fun new s5 ⟨x5, H5, I5, r5, q5⟩ => ?_
  exact thn (hs pins s5 σ H5 x1 x2 x5 ov iv new _ I5 r1 r2 r5 q5) fun _ s6 ⟨H6, I6, q6⟩ => ⟨σ, H6, I6, q6⟩
/-- ints -/
def ipI (f : Int → Int → Int) : TIp := fun x y H Q => ∃ i j, x = .int i ∧ y = .int j ∧ Q (.int (f i j)) H
theorem ip_add : PIp X .Add (ipI fun i j => i + j) := by
  intro pins s σ H x y v u Q I r1 r2 h
  obtain ⟨i, j, e1, e2, q⟩ := h
  subst e1; subst e2
  obtain ⟨t, rfl⟩ := r1
  obtain ⟨t', rfl⟩ := r2
  exact iadd_int ⟨.int _, H, I.tok _, ⟨_, rfl⟩, q⟩
theorem ip_sub : PIp X .Sub (ipI fun i j => i - j) := by
  intro pins s σ H x y v u Q I r1 r2 h
  obtain ⟨i, j, e1, e2, q⟩ := h
  subst e1; subst e2
  obtain ⟨t, rfl⟩ := r1
  obtain ⟨t', rfl⟩ := r2
  exact isub_int ⟨.int _, H, I.tok _, ⟨_, rfl⟩, q⟩
end

/-! ### while -/
section
variable {X : Cx} {pos : Pos}
/-- the invariant W with its measure -/
def tWhile (c : TT) (tb : TS) : TS := fun D σ H => ∃ W : Nat → St → Hp → Prop, (∃ m, W m σ H) ∧ ∀ m σ H, W m σ H →
  c σ H fun b H1 => if b = true then ∃ N : St → Hp → Prop, (∀ σ' H', N σ' H' → ∃ m', m' < m ∧ W m' σ' H') ∧ tb { D with nx := N, ct := N, bk := D.nx } σ H1 else D.nx σ H1
theorem ps_while {c : Expr} {body : List Stmt} {tc : TT} {tb : TS} (hp : PassesOwn (model X.prog X.w) X.A X.env X.xe) (hc : PT X c tc) (hb : PSs X body tb) : PS X (.While c body [] pos) (tWhile tc tb) := by
  intro pins s σ H D I h
  obtain ⟨W, ⟨m0, w0⟩, turn⟩ := h
  refine wpAny_While (codeAny_whileLoop (fun n s' => ∃ σ' H', Inv X pins σ' H' s' ∧ W n σ' H') ?_ m0 ⟨σ, H, I, w0⟩)
  rintro n s1 ⟨σ1, H1, I1, w1⟩
  refine wpAny_passesOwn hp (thn (hc pins s1 σ1 H1 _ I1 (turn n σ1 H1 w1)) fun b s2 ⟨H2, I2, q2⟩ => ?_)
  cases b with
  | true =>
    obtain ⟨N, hN, q2⟩ := q2
    rw [if_pos rfl]
    refine wpAny_passesOwn hp (thn (hb pins s2 σ1 H2 _ I2 q2) fun f s3 q3 => ?_)
    cases f with
    | next =>
      obtain ⟨σ3, H3, I3, n3⟩ := q3
      obtain ⟨m', hm, w3⟩ := hN σ3 H3 n3
      exact ⟨m', hm, σ3, H3, I3, w3⟩
    | cont =>
      obtain ⟨σ3, H3, I3, n3⟩ := q3
      obtain ⟨m', hm, w3⟩ := hN σ3 H3 n3
      exact ⟨m', hm, σ3, H3, I3, w3⟩
    | brk => exact q3
    | ret v => exact q3
  | false =>
    rw [if_neg Bool.false_ne_true]
    exact wpAny_execs_nil ⟨σ1, H2, I2, q2⟩
end

/-! ### what a loop or a comprehension walks -/
/-- at turn i: it yields x (the heap may grow), or it stops -/
structure It where
  go : Nat → Hp → Prop
  yld : Nat → Hp → V → Hp → Prop
  stop : Nat → Hp → Prop
/-- the iterator's own objects may turn: they are not the frame's, not pinned, younger than the entry (or a comprehension's own) -/
def FpOk (X : Cx) (pins : List (Addr × Obj)) (H : Hp) (b : Addr) : Prop :=
  H b = none ∧ b ≠ X.env.locals ∧ b ∉ X.fs ∧ (b ∈ X.ex ∨ X.s₀.heap.objs.size ≤ b) ∧ (∀ x c, X.env.cells.lookup x = some c → c ≠ b) ∧ ∀ p ∈ X.pn ++ pins, p.1 ≠ b
theorem Inv.fpOk {X : Cx} {pins : List (Addr × Obj)} {σ : St} {H H' : Hp} {s : Shared} {b : Addr} (I : Inv X pins σ H s) (hb : s.heap.objs.size ≤ b) (hn : H' b = none) : FpOk X pins H' b := by
  refine ⟨hn, Nat.ne_of_gt (Nat.lt_of_lt_of_le I.lt hb), I.nofs hb, .inr (Nat.le_trans I.sz hb), fun x c e z => ?_, fun p hp z => ?_⟩
  · obtain ⟨v, q⟩ := I.cell x c e
    exact absurd (Nat.lt_of_lt_of_le q.lt (by rw [z]; exact hb)) (Nat.lt_irrefl _)
  · exact absurd (Nat.lt_of_lt_of_le (Heap.lt_size (I.pin p hp).1) (by rw [z]; exact hb)) (Nat.lt_irrefl _)
structure Turn (P : Program) (w : World) (K : PySem.W.Frag) (tg : Expr) (J : It) (fp : List Addr) (it : Addr) (tn : Nat → Heap → Prop) : Prop where
  mem : it ∈ fp
  obj : ∀ i h, tn i h → ∀ b ∈ fp, ∃ o, h.get? b = some o ∧ ∀ v, o.data ≠ .cell v
  keep : ∀ i h h', tn i h → (∀ b ∈ fp, ∀ o, h.get? b = some o → h'.get? b = some o) → tn i h'
  item : ∀ (X : Cx), X.prog = P → X.w = w → X.K = K → X.calm = true → ∀ (i : Nat) (pins : List (Addr × Obj)) (s : Shared) (σ : St) (H : Hp) (E : Value → Shared → Prop), Inv X pins σ H s → (∀ b ∈ fp, FpOk X pins H b) → tn i s.heap → J.go i H →
    wpAny (model P w) X.A (pyNext (.ref it)) (fun r s1 => ∃ u, r = some u ∧
      wpAny (model P w) X.A (letOwnedTupleGo tg (.ref it) u) (fun _ s2 => ∃ x H', Inv X pins σ H' s2 ∧ RelV x u ∧ J.yld i H x H' ∧ tn (i + 1) s2.heap ∧ ∀ b ∈ fp, H' b = none) E s1) E s
  done : ∀ (X : Cx), X.prog = P → X.w = w → X.K = K → X.calm = true → ∀ (i : Nat) (pins : List (Addr × Obj)) (s : Shared) (σ : St) (H : Hp) (E : Value → Shared → Prop), Inv X pins σ H s → (∀ b ∈ fp, FpOk X pins H b) → tn i s.heap → J.stop i H →
    wpAny (model P w) X.A (pyNext (.ref it)) (fun r s1 => r = none ∧ Inv X pins σ H s1) E s
  self : ∀ (A : Around) (i : Nat) (s : Shared) (Q : Value → Shared → Prop) (E : Value → Shared → Prop), tn i s.heap → Q (.ref it) s → wpAny (model P w) A (pyIter (.ref it)) Q E s
abbrev TI := St → Hp → (It → Hp → Prop) → Prop
/-- an iterator has come -/
def PIE (X : Cx) (pins : List (Addr × Obj)) (σ : St) (tg : Expr) (R : It → Hp → Prop) (itv : Value) (s2 : Shared) : Prop :=
  ∃ (it : Addr) (fp : List Addr) (tn : Nat → Heap → Prop) (J : It) (H' : Hp), itv = .ref it ∧ Inv X pins σ H' s2 ∧ Turn X.prog X.w X.K tg J fp it tn ∧ tn 0 s2.heap ∧ (∀ b ∈ fp, FpOk X pins H' b) ∧ R J H'
def PI (X : Cx) (tg iter : Expr) (wi : TI) : Prop :=
  ∀ (pins : List (Addr × Obj)) (s : Shared) (σ : St) (H : Hp) (R : It → Hp → Prop), Inv X pins σ H s → wi σ H R →
    wpAny (model X.prog X.w) X.A (eval iter X.env) (fun v s1 => wpAny (model X.prog X.w) X.A (pyIter v) (PIE X pins σ tg R) X.xe s1) X.xe s

/-- the step ahead of the store is nothing for an iterator that keeps no tuple -/
theorem go_of {M : Model} {A : Around} {E : Value → Shared → Prop} {s : Shared} {tg : Expr} {it : Addr} {u : Value} {o : Obj} {n : String} {vs : Array Value} {Q : Unit → Shared → Prop} (ho : s.heap.get? it = some o) (hc : o.cls = .type n) (hd : o.data = .fields vs)
    (hn : ["enumerate", "zip", "dict_itemiterator", "dict_reverseitemiterator", "odict_iterator", "itertools.zip_longest", "itertools.pairwise"].contains n = false) (hQ : Q () s) : wpAny M A (letOwnedTupleGo tg (.ref it) u) Q E s := by
  unfold letOwnedTupleGo
  cases tg <;> first
    | exact wpAny_pure hQ
    | (cases u <;> first
        | exact wpAny_pure hQ
        | (refine wpAny_bind (wpAny_load ho ?_)
           rw [hc, hd]
           show wpAny M A (if (["enumerate", "zip", "dict_itemiterator", "dict_reverseitemiterator", "odict_iterator", "itertools.zip_longest", "itertools.pairwise"].contains n && vs[0]? == some (rawInt _)) = true then _ else _) Q E s
           rw [if_neg (by intro h; rw [hn, Bool.false_and] at h; cases h)]
           exact wpAny_pure hQ))

/-- the list at a, as it stands at each turn (a loop may append to it) -/
def Itl (K : PySem.W.Frag) (a : Addr) : It :=
  ⟨fun i H => ∃ xs x, SqL K H a xs ∧ xs[i]? = some x, fun i H x H' => H' = H ∧ ∀ xs, SqL K H a xs → xs[i]? = some x, fun i H => ∃ xs, SqL K H a xs ∧ xs.length ≤ i⟩
def Itt (K : PySem.W.Frag) (a : Addr) : It :=
  ⟨fun i H => ∃ xs x, SqT K H a xs ∧ xs[i]? = some x, fun i H x H' => H' = H ∧ ∀ xs, SqT K H a xs → xs[i]? = some x, fun i H => ∃ xs, SqT K H a xs ∧ xs.length ≤ i⟩
/-- lo, lo + 1, .. (n of them) -/
def Itr (lo : Int) (n : Nat) : It := ⟨fun i _ => i < n, fun i H x H' => H' = H ∧ x = .int (lo + i), fun i _ => n ≤ i⟩
theorem turn_list {P : Program} {w : World} {K : PySem.W.Frag} {tg : Expr} (a it : Addr) : Turn P w K tg (Itl K a) [it] it (fun i h => h.IsListIter it a i) where
  mem := by simp
  obj := fun i h st b hb => by
    have e : b = it := by simpa using hb
    subst e
    obtain ⟨o, e, c, d⟩ := st
    exact ⟨o, e, fun v z => by rw [d] at z; cases z⟩
  keep := fun i h h' st k => st.at fun o e => k it (by simp) o e
  item := by
    intro X hP hw hK hc i pins s σ H E I hf st hg
    subst hP hw hK
    obtain ⟨xs, x, hq, hx⟩ := hg
    obtain ⟨its, rv, p, hz⟩ := I.list hq
    obtain ⟨u, hu, ru⟩ := rv.get hx
    obtain ⟨f0, f1, f2, f3, f4, f5⟩ := hf it (by simp)
    refine wpAny_pyNext_list_item st p.isList (x := u) (by simpa using hu) fun h' st' sb => ?_
    have I1 : Inv X pins σ H { s with heap := h' } := I.turned (t' := s.toks) (fun b o hb e => (sb.2 b hb).trans e) f0 f1 f3 f4 f5
    obtain ⟨o, e, c, d⟩ := id st'
    exact ⟨u, rfl, go_of (s := { s with heap := h' }) e c d (by decide) ⟨x, H, I1, ru, ⟨rfl, fun ys hy => by rw [I.list_inj hy hq]; exact hx⟩, st', fun b hb => (hf b hb).1⟩⟩
  done := by
    intro X hP hw hK hc i pins s σ H E I hf st hg
    subst hP hw hK
    obtain ⟨xs, hq, hx⟩ := hg
    obtain ⟨its, rv, p, hz⟩ := I.list hq
    obtain ⟨f0, f1, f2, f3, f4, f5⟩ := hf it (by simp)
    have hl := rv.length
    exact wpAny_pyNext_list_end (I.ok.hd hc) st p.isList (by simp; omega) fun h' eb => ⟨rfl, I.turned (t' := s.toks) (fun b o hb e => eb b o hb e) f0 f1 f3 f4 f5⟩
  self := fun _ _ _ _ _ st h => wpAny_pyIter_listiter st h
theorem turn_tuple {P : Program} {w : World} {K : PySem.W.Frag} {tg : Expr} (a it : Addr) : Turn P w K tg (Itt K a) [it] it (fun i h => h.IsTupleIter it a i) where
  mem := by simp
  obj := fun i h st b hb => by
    have e : b = it := by simpa using hb
    subst e
    obtain ⟨o, e, c, d⟩ := st
    exact ⟨o, e, fun v z => by rw [d] at z; cases z⟩
  keep := fun i h h' st k => st.at fun o e => k it (by simp) o e
  item := by
    intro X hP hw hK hc i pins s σ H E I hf st hg
    subst hP hw hK
    obtain ⟨xs, x, hq, hx⟩ := hg
    obtain ⟨its, rv, p, hz⟩ := I.tuple hq
    obtain ⟨u, hu, ru⟩ := rv.get hx
    obtain ⟨f0, f1, f2, f3, f4, f5⟩ := hf it (by simp)
    refine wpAny_pyNext_tuple_item st (show s.heap.IsTuple a its.toArray from p) (x := u) (by simpa using hu) fun h' st' sb => ?_
    have I1 : Inv X pins σ H { s with heap := h' } := I.turned (t' := s.toks) (fun b o hb e => (sb.2 b hb).trans e) f0 f1 f3 f4 f5
    obtain ⟨o, e, c, d⟩ := id st'
    exact ⟨u, rfl, go_of (s := { s with heap := h' }) e c d (by decide) ⟨x, H, I1, ru, ⟨rfl, fun ys hy => by rw [I.tuple_inj hy hq]; exact hx⟩, st', fun b hb => (hf b hb).1⟩⟩
  done := by
    intro X hP hw hK hc i pins s σ H E I hf st hg
    subst hP hw hK
    obtain ⟨xs, hq, hx⟩ := hg
    obtain ⟨its, rv, p, hz⟩ := I.tuple hq
    obtain ⟨f0, f1, f2, f3, f4, f5⟩ := hf it (by simp)
    have hl := rv.length
    exact wpAny_pyNext_tuple_end (I.ok.hd hc) st (show s.heap.IsTuple a its.toArray from p) (by simp; omega) fun h' eb => ⟨rfl, I.turned (t' := s.toks) (fun b o hb e => eb b o hb e) f0 f1 f3 f4 f5⟩
  self := fun _ _ _ _ _ st h => wpAny_pyIter_tupleiter st h
theorem turn_range {P : Program} {w : World} {K : PySem.W.Frag} {tg : Expr} (it : Addr) (lo : Int) (n : Nat) : Turn P w K tg (Itr lo n) [it] it (fun i h => IsRangeIter h it (lo + (i : Nat) * 1) ((n : Int) - (i : Nat)) 1) where
  mem := by simp
  obj := fun i h st b hb => by
    have e : b = it := by simpa using hb
    subst e
    exact ⟨_, st, fun v z => by
      have z' : Data.fields _ = Data.cell v := z
      cases z'⟩
  keep := fun i h h' st k => k it (by simp) _ st
  item := by
    intro X hP hw hK hc i pins s σ H E I hf st hg
    subst hP hw hK
    obtain ⟨f0, f1, f2, f3, f4, f5⟩ := hf it (by simp)
    have W := Walks.range (prog := X.prog) (w := X.w) (I.ok.hd hc) it lo 1 n
    refine W.item i s _ _ hg st fun v h' tk hv st' kk => ?_
    obtain ⟨t, rfl⟩ := hv
    have I1 : Inv X pins σ H { s with heap := h', toks := tk } := I.turned (fun b o hb e => kk b o (by simpa using hb) e) f0 f1 f3 f4 f5
    refine ⟨_, rfl, go_of (s := { s with heap := h', toks := tk }) (n := "range_iterator") st' rfl rfl (by decide) ⟨.int (lo + i), H, I1, ⟨t, ?_⟩, ⟨rfl, rfl⟩, st', fun b hb => (hf b hb).1⟩⟩
    rw [Int.mul_one]
  done := by
    intro X hP hw hK hc i pins s σ H E I hf st hg
    subst hP hw hK
    obtain ⟨f0, f1, f2, f3, f4, f5⟩ := hf it (by simp)
    exact wpAny_pyNext_range_end (I.ok.hd hc) st (by have : n ≤ i := hg; omega) fun h' eb => ⟨rfl, I.turned (t' := s.toks) (fun b o hb e => eb b o hb e) f0 f1 f3 f4 f5⟩
  self := fun _ _ _ _ _ st h => wpAny_pyIter_rangeiter st h
end L2

namespace L2
open PySem PySem.Spec PyProof.Rows
section
variable {X : Cx} {tg : Expr}
def iList (K : PySem.W.Frag) (tl : TE) : TI := fun σ H R => tl σ H fun x H1 => ∃ a, x = .ref a ∧ (∃ xs, SqL K H1 a xs) ∧ R (Itl K a) H1
def iTup (K : PySem.W.Frag) (tl : TE) : TI := fun σ H R => tl σ H fun x H1 => ∃ a, x = .ref a ∧ (∃ xs, SqT K H1 a xs) ∧ R (Itt K a) H1
theorem pi_list {l : Expr} {tl : TE} (hl : PE X l tl) : PI X tg l (iList X.K tl) := by
  intro pins s σ H R I h
  refine thn (hl pins s σ H _ I h) fun v s1 ⟨x, H1, I1, r1, q1⟩ => ?_
  obtain ⟨a, e, ⟨xs, hq⟩, q⟩ := q1
  subst e
  cases r1
  obtain ⟨its, rv, p, hz⟩ := I1.list hq
  refine wpAny_pyIter_list p.isList ?_
  refine ⟨s1.heap.objs.size, [s1.heap.objs.size], _, _, H1, rfl, I1.kept (t' := s1.toks) fun b o e => Heap.get?_push_of_some _ e, turn_list a _, ⟨_, Heap.get?_push_size _ rfl, rfl, rfl⟩, fun b hb => ?_, q⟩
  have e : b = s1.heap.objs.size := by simpa using hb
  subst e
  exact I1.fpOk (Nat.le_refl _) (I1.hok.fresh (Nat.le_refl _))
theorem pi_tup {l : Expr} {tl : TE} (hl : PE X l tl) : PI X tg l (iTup X.K tl) := by
  intro pins s σ H R I h
  refine thn (hl pins s σ H _ I h) fun v s1 ⟨x, H1, I1, r1, q1⟩ => ?_
  obtain ⟨a, e, ⟨xs, hq⟩, q⟩ := q1
  subst e
  cases r1
  obtain ⟨its, rv, p, hz⟩ := I1.tuple hq
  refine wpAny_pyIter_tuple (show s1.heap.IsTuple a its.toArray from p) ?_
  refine ⟨s1.heap.objs.size, [s1.heap.objs.size], _, _, H1, rfl, I1.kept (t' := s1.toks) fun b o e => Heap.get?_push_of_some _ e, turn_tuple a _, ⟨_, Heap.get?_push_size _ rfl, rfl, rfl⟩, fun b hb => ?_, q⟩
  have e : b = s1.heap.objs.size := by simpa using hb
  subst e
  exact I1.fpOk (Nat.le_refl _) (I1.hok.fresh (Nat.le_refl _))
/-- a range object just made, walked -/
theorem range_it {pins : List (Addr × Obj)} {σ : St} {H : Hp} {s : Shared} {R : It → Hp → Prop} {E : Value → Shared → Prop} {lo hi : Int} {t u v : Tok} {tk : Nat} (I : Inv X pins σ H s) (h1 : -(2 ^ 62) ≤ lo) (h2 : lo < 2 ^ 62) (h3 : -(2 ^ 62) ≤ hi) (h4 : hi < 2 ^ 62)
    (q : R (Itr lo (hi - lo).toNat) H) : wpAny (model X.prog X.w) X.A (pyIter (.ref s.heap.objs.size)) (PIE X pins σ tg R) E { s with heap := s.heap.push { cls := .type "range", data := .fields #[.int lo t, .int hi u, .int 1 v] }, toks := tk } := by
  refine wpAny_pyIter_range (IsRange.new ..) (small_one h1 h2 h3 h4) ?_
  have I1 : Inv X pins σ H { s with heap := s.heap.push { cls := .type "range", data := .fields #[.int lo t, .int hi u, .int 1 v] }, toks := tk } := I.kept fun b o e => Heap.get?_push_of_some _ e
  refine ⟨(s.heap.push { cls := .type "range", data := .fields #[.int lo t, .int hi u, .int 1 v] }).objs.size, [(s.heap.push { cls := .type "range", data := .fields #[.int lo t, .int hi u, .int 1 v] }).objs.size], _, _, H, rfl,
    I1.kept (t' := tk) fun b o e => Heap.get?_push_of_some _ e, turn_range _ lo (hi - lo).toNat, ?_, fun b hb => ?_, q⟩
  · have e1 : lo + ((0 : Nat) : Int) * 1 = lo := by simp
    have e2 : (((hi - lo).toNat : Nat) : Int) - ((0 : Nat) : Int) = Builtin.Range.rangeSize lo hi 1 := by rw [rangeSize_one]; split <;> omega
    show IsRangeIter _ _ (lo + ((0 : Nat) : Int) * 1) ((((hi - lo).toNat : Nat) : Int) - ((0 : Nat) : Int)) 1
    rw [e1, e2]
    exact Heap.get?_push_size _ rfl
  · have e : b = (s.heap.push { cls := .type "range", data := .fields #[.int lo t, .int hi u, .int 1 v] }).objs.size := by simpa using hb
    subst e
    exact I1.fpOk (Nat.le_refl _) (I1.hok.fresh (Nat.le_refl _))
def iRng1 (ta : TA) : TI := fun σ H R => ta σ H fun vs H1 => ∃ j : Int, vs = [.int j] ∧ -(2 ^ 62) ≤ j ∧ j < 2 ^ 62 ∧ R (Itr 0 j.toNat) H1
def iRng2 (ta : TA) : TI := fun σ H R => ta σ H fun vs H1 => ∃ i j : Int, vs = [.int i, .int j] ∧ (-(2 ^ 62) ≤ i ∧ i < 2 ^ 62 ∧ -(2 ^ 62) ≤ j ∧ j < 2 ^ 62) ∧ R (Itr i (j - i).toNat) H1
theorem pi_range1 {a : Expr} {ta : TA} {p pos : Pos} (hg : Gl X "range") (hm : X.mg "range" = none) (ha : PA X [a] ta) (hs : starEach [a] X.env = [(false, eval a X.env)] := by rfl) : PI X tg (.Call (.Name "range" p) [a] [] pos) (iRng1 ta) := by
  intro pins s σ H R I h
  refine Call_ (ld_blt I hg hm boot_range (PyProof.Rows.callWith_type1 (thn (ha pos pins s σ H _ I h) fun us s1 ⟨vs, H1, I1, r1, q1⟩ => ?_) hs rfl))
  obtain ⟨j, e, q1, q2, q⟩ := q1
  subst e
  cases r1 with
  | cons r rr =>
    cases rr
    obtain ⟨t, rfl⟩ := r
    exact call_range_1 (range_it I1 (by omega) (by omega) q1 q2 (by simpa using q))
theorem pi_range2 {a b : Expr} {ta : TA} {p pos : Pos} (hg : Gl X "range") (hm : X.mg "range" = none) (ha : PA X [a, b] ta) (hs : starEach [a, b] X.env = [(false, eval a X.env), (false, eval b X.env)] := by rfl) (hs2 : starEach [b] X.env = [(false, eval b X.env)] := by rfl) :
    PI X tg (.Call (.Name "range" p) [a, b] [] pos) (iRng2 ta) := by
  intro pins s σ H R I h
  refine Call_ (ld_blt I hg hm boot_range (PyProof.Rows.callWith_type1 (thn (ha pos pins s σ H _ I h) fun us s1 ⟨vs, H1, I1, r1, q1⟩ => ?_) (by rw [hs, hs2]) (by rw [hs2]; rfl)))
  obtain ⟨i, j, e, ⟨q1, q2, q3, q4⟩, q⟩ := q1
  subst e
  cases r1 with
  | cons r rr =>
    cases rr with
    | cons r' rr =>
      cases rr
      obtain ⟨t, rfl⟩ := r
      obtain ⟨t', rfl⟩ := r'
      exact call_range_2 (range_it I1 q1 q2 q3 q4 q)

/-! ### for -/
/-- W: the invariant by the turn and a measure; N: what the body is to reach -/
def tFor (wi : TI) (g : TG) (tb : TS) : TS := fun D σ H => wi σ H fun J H1 => ∃ W : Nat → Nat → St → Hp → Prop, (∃ m, W 0 m σ H1) ∧ ∀ i m σ H, W i m σ H →
  (J.stop i H ∧ D.nx σ H) ∨ (J.go i H ∧ ∃ N : St → Hp → Prop, (∀ σ' H', N σ' H' → ∃ m', m' < m ∧ W (i + 1) m' σ' H') ∧ ∀ x H', J.yld i H x H' → g x σ H' fun σ2 H2 => tb { D with nx := N, ct := N, bk := D.nx } σ2 H2)
/-- the records at fp as they stand -/
def pinsAt (fp : List Addr) (h : Heap) : List (Addr × Obj) := fp.filterMap fun b => (h.get? b).map fun o => (b, o)
theorem mem_pinsAt {fp : List Addr} {h : Heap} {b : Addr} {o : Obj} (hb : b ∈ fp) (e : h.get? b = some o) : (b, o) ∈ pinsAt fp h := List.mem_filterMap.mpr ⟨b, hb, by rw [e]; rfl⟩
theorem of_pinsAt {fp : List Addr} {h : Heap} {p : Addr × Obj} (hp : p ∈ pinsAt fp h) : p.1 ∈ fp ∧ h.get? p.1 = some p.2 := by
  obtain ⟨b, hb, e⟩ := List.mem_filterMap.mp hp
  cases q : h.get? b with
  | none => rw [q] at e; cases e
  | some o =>
    rw [q] at e
    have e' : (b, o) = p := Option.some.inj e
    subst e'
    exact ⟨hb, q⟩
theorem Inv.pinned {pins : List (Addr × Obj)} {σ : St} {H : Hp} {s : Shared} {fp : List Addr} (I : Inv X pins σ H s) (hf : ∀ b ∈ fp, FpOk X pins H b) (ho : ∀ b ∈ fp, ∃ o, s.heap.get? b = some o ∧ ∀ v, o.data ≠ .cell v) : Inv X (pins ++ pinsAt fp s.heap) σ H s :=
  I.pins_of fun p hp => (List.mem_append.mp hp).elim (fun z => I.pin p (List.mem_append_right _ z)) fun z => by
    obtain ⟨hb, e⟩ := of_pinsAt z
    obtain ⟨f0, f1, f2, _⟩ := hf p.1 hb
    obtain ⟨o, e', d⟩ := ho p.1 hb
    rw [e] at e'; cases e'
    exact ⟨e, f0, f1, f2, d⟩
theorem Inv.unpinned {pins pl : List (Addr × Obj)} {σ : St} {H : Hp} {s : Shared} (I : Inv X (pins ++ pl) σ H s) : Inv X pins σ H s := I.pins_of fun p hp => I.pin p (List.mem_append_right _ (List.mem_append_left _ hp))
theorem ps_for {iter : Expr} {body : List Stmt} {wi : TI} {g : TG} {tb : TS} {pos : Pos} (hp : PassesOwn (model X.prog X.w) X.A X.env X.xe) (hc : X.calm = true) (hi : PI X tg iter wi) (hg : PG X tg g) (hb : PSs X body tb)
    (hs : ∀ x, foldedSetIterable iter X.env x = pure x := by intro _; rfl) : PS X (.For tg iter body [] pos) (tFor wi g tb) := by
  intro pins s σ H D I h
  refine wpAny_For (thn (hi pins s σ H _ I h) fun v s1 h1 => thn h1 fun itv s2 h2 => ?_) hs
  obtain ⟨it, fp, tn, J, H2, e, I2, T, st2, f2, W, ⟨m0, w0⟩, turn⟩ := h2
  subst e
  -- what stays true of the iterator's objects through the loop
  have stat : ∀ {H' : Hp}, (∀ b ∈ fp, H' b = none) → ∀ b ∈ fp, FpOk X pins H' b := fun hn b hb => ⟨hn b hb, (f2 b hb).2⟩
  refine codeAny_forLoop_any (fun n s' => ∃ i σ' H', Inv X pins σ' H' s' ∧ tn i s'.heap ∧ (∀ b ∈ fp, H' b = none) ∧ W i n σ' H') ?_ m0 ⟨0, σ, H2, I2, st2, fun b hb => (f2 b hb).1, w0⟩
  rintro n s3 ⟨i, σ3, H3, I3, st3, fr3, w3⟩
  rcases turn i n σ3 H3 w3 with ⟨stop, qn⟩ | ⟨go, N, hN, step⟩
  · refine wpAny_passesOwn hp (thn (T.done X rfl rfl rfl hc i pins s3 σ3 H3 X.xe I3 (stat fr3) st3 stop) fun r s4 ⟨hr, I4⟩ => ?_)
    subst hr
    exact wpAny_execs_nil ⟨σ3, H3, I4, qn⟩
  · refine wpAny_passesOwn hp (thn (T.item X rfl rfl rfl hc i pins s3 σ3 H3 X.xe I3 (stat fr3) st3 go) fun r s4 ⟨u, hr, h4⟩ => ?_)
    subst hr
    refine wpAny_passesOwn hp (thn h4 fun _ s5 ⟨x, H5, I5, r5, y5, st5, fr5⟩ => ?_)
    have I5' := I5.pinned (stat fr5) (T.obj _ _ st5)
    refine wpAny_passesOwn hp (thn (hg _ s5 σ3 H5 x u _ I5' r5 (step x H5 y5)) fun _ s6 ⟨σ6, H6, I6, q6⟩ => ?_)
    refine wpAny_passesOwn hp (thn (hb _ s6 σ6 H6 _ I6 q6) fun f s7 q7 => ?_)
    have again : ∀ {σ7 : St} {H7 : Hp}, Inv X (pins ++ pinsAt fp s5.heap) σ7 H7 s7 → N σ7 H7 → ∃ m, m < n ∧ ∃ i σ' H', Inv X pins σ' H' s7 ∧ tn i s7.heap ∧ (∀ b ∈ fp, H' b = none) ∧ W i m σ' H' := fun {σ7 H7} I7 n7 => by
      obtain ⟨m', hm, w7⟩ := hN σ7 H7 n7
      refine ⟨m', hm, i + 1, σ7, H7, I7.unpinned, T.keep _ _ _ st5 fun b hb o e => (I7.pin (b, o) (List.mem_append_right _ (List.mem_append_right _ (mem_pinsAt hb e)))).1, fun b hb => ?_, w7⟩
      obtain ⟨o, e, d⟩ := T.obj _ _ st5 b hb
      exact (I7.pin (b, o) (List.mem_append_right _ (List.mem_append_right _ (mem_pinsAt hb e)))).2.1
    cases f with
    | next => obtain ⟨σ7, H7, I7, n7⟩ := q7; exact again I7 n7
    | cont => obtain ⟨σ7, H7, I7, n7⟩ := q7; exact again I7 n7
    | brk => obtain ⟨σ7, H7, I7, q7⟩ := q7; exact ⟨σ7, H7, I7.unpinned, q7⟩
    | ret v => obtain ⟨x7, σ7, H7, I7, r7, q7⟩ := q7; exact ⟨x7, σ7, H7, I7.unpinned, r7, q7⟩
end

/-! ### the forms one uses -/
/-- over a list that the body leaves as it is -/
theorem for_list {K : PySem.W.Frag} {a : Addr} {xs : List V} {g : TG} {tb : TS} {D : Ends} {σ : St} {H : Hp} (Pv : Nat → St → Hp → Prop) (h0 : Pv 0 σ H) (hl : ∀ i σ H, i ≤ xs.length → Pv i σ H → SqL K H a xs)
    (hs : ∀ i x σ H, xs[i]? = some x → Pv i σ H → g x σ H fun σ2 H2 => tb { D with nx := Pv (i + 1), ct := Pv (i + 1), bk := D.nx } σ2 H2) (hd : ∀ σ H, Pv xs.length σ H → D.nx σ H) :
    ∃ W : Nat → Nat → St → Hp → Prop, (∃ m, W 0 m σ H) ∧ ∀ i m σ H, W i m σ H →
      ((Itl K a).stop i H ∧ D.nx σ H) ∨ ((Itl K a).go i H ∧ ∃ N : St → Hp → Prop, (∀ σ' H', N σ' H' → ∃ m', m' < m ∧ W (i + 1) m' σ' H') ∧ ∀ x H', (Itl K a).yld i H x H' → g x σ H' fun σ2 H2 => tb { D with nx := N, ct := N, bk := D.nx } σ2 H2) := by
  refine ⟨fun i m σ H => m = xs.length - i ∧ i ≤ xs.length ∧ Pv i σ H, ⟨xs.length, by simp, Nat.zero_le _, h0⟩, ?_⟩
  rintro i m σ H ⟨rfl, hi, p⟩
  have q := hl i σ H hi p
  by_cases hlt : i < xs.length
  · refine .inr ⟨⟨xs, xs[i], q, by simp [hlt]⟩, Pv (i + 1), fun σ' H' p' => ⟨xs.length - (i + 1), by omega, rfl, hlt, p'⟩, fun x H' y => ?_⟩
    obtain ⟨e, y⟩ := y
    subst e
    exact hs i x σ _ (y xs q) p
  · have e : i = xs.length := by omega
    subst e
    exact .inl ⟨⟨xs, q, Nat.le_refl _⟩, hd σ H p⟩
theorem for_tup {K : PySem.W.Frag} {a : Addr} {xs : List V} {g : TG} {tb : TS} {D : Ends} {σ : St} {H : Hp} (Pv : Nat → St → Hp → Prop) (h0 : Pv 0 σ H) (hl : ∀ i σ H, i ≤ xs.length → Pv i σ H → SqT K H a xs)
    (hs : ∀ i x σ H, xs[i]? = some x → Pv i σ H → g x σ H fun σ2 H2 => tb { D with nx := Pv (i + 1), ct := Pv (i + 1), bk := D.nx } σ2 H2) (hd : ∀ σ H, Pv xs.length σ H → D.nx σ H) :
    ∃ W : Nat → Nat → St → Hp → Prop, (∃ m, W 0 m σ H) ∧ ∀ i m σ H, W i m σ H →
      ((Itt K a).stop i H ∧ D.nx σ H) ∨ ((Itt K a).go i H ∧ ∃ N : St → Hp → Prop, (∀ σ' H', N σ' H' → ∃ m', m' < m ∧ W (i + 1) m' σ' H') ∧ ∀ x H', (Itt K a).yld i H x H' → g x σ H' fun σ2 H2 => tb { D with nx := N, ct := N, bk := D.nx } σ2 H2) := by
  refine ⟨fun i m σ H => m = xs.length - i ∧ i ≤ xs.length ∧ Pv i σ H, ⟨xs.length, by simp, Nat.zero_le _, h0⟩, ?_⟩
  rintro i m σ H ⟨rfl, hi, p⟩
  have q := hl i σ H hi p
  by_cases hlt : i < xs.length
  · refine .inr ⟨⟨xs, xs[i], q, by simp [hlt]⟩, Pv (i + 1), fun σ' H' p' => ⟨xs.length - (i + 1), by omega, rfl, hlt, p'⟩, fun x H' y => ?_⟩
    obtain ⟨e, y⟩ := y
    subst e
    exact hs i x σ _ (y xs q) p
  · have e : i = xs.length := by omega
    subst e
    exact .inl ⟨⟨xs, q, Nat.le_refl _⟩, hd σ H p⟩
theorem for_range {lo : Int} {n : Nat} {g : TG} {tb : TS} {D : Ends} {σ : St} {H : Hp} (Pv : Nat → St → Hp → Prop) (h0 : Pv 0 σ H)
    (hs : ∀ i σ H, i < n → Pv i σ H → g (.int (lo + i)) σ H fun σ2 H2 => tb { D with nx := Pv (i + 1), ct := Pv (i + 1), bk := D.nx } σ2 H2) (hd : ∀ σ H, Pv n σ H → D.nx σ H) :
    ∃ W : Nat → Nat → St → Hp → Prop, (∃ m, W 0 m σ H) ∧ ∀ i m σ H, W i m σ H →
      ((Itr lo n).stop i H ∧ D.nx σ H) ∨ ((Itr lo n).go i H ∧ ∃ N : St → Hp → Prop, (∀ σ' H', N σ' H' → ∃ m', m' < m ∧ W (i + 1) m' σ' H') ∧ ∀ x H', (Itr lo n).yld i H x H' → g x σ H' fun σ2 H2 => tb { D with nx := N, ct := N, bk := D.nx } σ2 H2) := by
  refine ⟨fun i m σ H => m = n - i ∧ i ≤ n ∧ Pv i σ H, ⟨n, by simp, Nat.zero_le _, h0⟩, ?_⟩
  rintro i m σ H ⟨rfl, hi, p⟩
  by_cases hlt : i < n
  · refine .inr ⟨hlt, Pv (i + 1), fun σ' H' p' => ⟨n - (i + 1), by omega, rfl, hlt, p'⟩, fun x H' y => ?_⟩
    obtain ⟨e, y⟩ := y
    subst e y
    exact hs i σ _ hlt p
  · have e : i = n := by omega
    subst e
    exact .inl ⟨Nat.le_refl _, hd σ H p⟩
/-- while, by a word and a measure of the state -/
theorem while_by {c : TT} {tb : TS} {D : Ends} {σ : St} {H : Hp} (Pv : St → Hp → Prop) (μ : St → Hp → Nat) (h0 : Pv σ H)
    (hs : ∀ σ H, Pv σ H → c σ H fun b H1 => if b = true then tb { D with nx := fun σ' H' => Pv σ' H' ∧ μ σ' H' < μ σ H, ct := fun σ' H' => Pv σ' H' ∧ μ σ' H' < μ σ H, bk := D.nx } σ H1 else D.nx σ H1)
    (mono : ∀ σ H Q Q', (∀ b H1, Q b H1 → Q' b H1) → c σ H Q → c σ H Q') : tWhile c tb D σ H := by
  refine ⟨fun m σ H => m = μ σ H ∧ Pv σ H, ⟨_, rfl, h0⟩, ?_⟩
  rintro m σ H ⟨rfl, p⟩
  refine mono σ H _ _ (fun b H1 q => ?_) (hs σ H p)
  cases b with
  | true => exact ⟨_, fun σ' H' ⟨p', l⟩ => ⟨_, l, rfl, p'⟩, q⟩
  | false => exact q
end L2

namespace L2
open PySem PySem.Spec PyProof.Rows

abbrev R2 := V → V → Hp → VK → Prop
/-- a two-place operation on values: f is binaryOp op, inplaceOp op or compareOp op -/
def OpR (X : Cx) (f : Value → Value → Sem Value) (r : R2) : Prop :=
  ∀ (pins : List (Addr × Obj)) (s : Shared) (σ : St) (H : Hp) (x y : V) (v u : Value) (Q : VK), Inv X pins σ H s → RelV x v → RelV y u → r x y H Q →
    wpAny (model X.prog X.w) X.A (f v u) (EP X pins σ Q) X.xe s
/-- a one-place operation -/
def UnR (X : Cx) (f : Value → Sem Value) (r : V → Hp → VK → Prop) : Prop :=
  ∀ (pins : List (Addr × Obj)) (s : Shared) (σ : St) (H : Hp) (x : V) (v : Value) (Q : VK), Inv X pins σ H s → RelV x v → r x H Q →
    wpAny (model X.prog X.w) X.A (f v) (EP X pins σ Q) X.xe s
/-- a call of a value that is known (a builtin, a type) with values -/
def CallR (X : Cx) (f : Value) (r : List V → Hp → VK → Prop) : Prop :=
  ∀ (pins : List (Addr × Obj)) (s : Shared) (σ : St) (H : Hp) (xs : List V) (us : List Value) (Q : VK), Inv X pins σ H s → Vals xs us → r xs H Q →
    wpAny (model X.prog X.w) X.A (call f us) (EP X pins σ Q) X.xe s
/-- a value's truth -/
def TruR (X : Cx) (r : V → Hp → (Bool → Hp → Prop) → Prop) : Prop :=
  ∀ (pins : List (Addr × Obj)) (s : Shared) (σ : St) (H : Hp) (x : V) (v : Value) (Q : Bool → Hp → Prop), Inv X pins σ H s → RelV x v → r x H Q →
    wpAny (model X.prog X.w) X.A (truthy v) (TP X pins σ Q) X.xe s

def tOp (r : R2) (ta tb : TE) : TE := fun σ H Q => ta σ H fun x H1 => tb σ H1 fun y H2 => r x y H2 Q
def tUn (r : V → Hp → VK → Prop) (ta : TE) : TE := fun σ H Q => ta σ H fun x H1 => r x H1 Q
/-- ints in, under C, and a value out -/
def rI (C : Int → Int → Prop) (g : Int → Int → V) : R2 := fun x y H Q => ∃ i j, x = .int i ∧ y = .int j ∧ C i j ∧ Q (g i j) H
def rI0 (g : Int → Int → V) : R2 := fun x y H Q => ∃ i j, x = .int i ∧ y = .int j ∧ Q (g i j) H
def rU (g : Int → V) : V → Hp → VK → Prop := fun x H Q => ∃ i, x = .int i ∧ Q (g i) H

section
variable {X : Cx} {a b c : Expr} {ta tb tc : TE} {pos : Pos}

theorem binT (ha : PE X a ta) (hb : PE X b tb) {pins : List (Addr × Obj)} {s : Shared} {σ : St} {H : Hp} {R : V → V → Hp → Prop} (I : Inv X pins σ H s)
    (h : ta σ H fun x H1 => tb σ H1 fun y H2 => R x y H2) {Q : Value → Shared → Prop} {f : Value → Value → Sem Value}
    (hf : ∀ v u s2 x y H2, Inv X pins σ H2 s2 → RelV x v → RelV y u → R x y H2 → wpAny (model X.prog X.w) X.A (f v u) Q X.xe s2) :
    wpAny (model X.prog X.w) X.A (eval a X.env) (fun v s₁ => wpAny (model X.prog X.w) X.A (eval b X.env) (fun u s₂ => wpAny (model X.prog X.w) X.A (f v u) Q X.xe s₂) X.xe s₁) X.xe s := by
  refine thn (ha pins s σ H _ I h) fun v s1 ⟨x, H1, I1, r1, q1⟩ => ?_
  refine thn (hb pins s1 σ H1 _ I1 q1) fun u s2 ⟨y, H2, I2, r2, q2⟩ => ?_
  exact hf v u s2 x y H2 I2 r1 r2 q2

theorem pe_op {op : Operator} {r : R2} (ho : OpR X (binaryOp op) r) (ha : PE X a ta) (hb : PE X b tb) : PE X (.BinOp a op b pos) (tOp r ta tb) := by
  intro pins s σ H Q I h
  exact wpAny_BinOp (binT ha hb I h fun v u s2 x y H2 I2 rx ry q => ho pins s2 σ H2 x y v u Q I2 rx ry q)
theorem pe_un {op : UnaryOp} {r : V → Hp → VK → Prop} (ho : UnR X (unaryOp op) r) (ha : PE X a ta) : PE X (.UnaryOp op a pos) (tUn r ta) := by
  intro pins s σ H Q I h
  exact UnaryOp_ (thn (ha pins s σ H _ I h) fun v s1 ⟨x, H1, I1, r1, q1⟩ => ho pins s1 σ H1 x v Q I1 r1 q1)
/-- a op= e at a name: the name's slot i -/
theorem augR {op : Operator} {r : R2} (ho : OpR X (inplaceOp op) r) {pins : List (Addr × Obj)} {s : Shared} {σ : St} {H : Hp} {x y : V} {v u : Value} {Q : VK} (I : Inv X pins σ H s)
    (rx : RelV x v) (ry : RelV y u) (q : r x y H Q) : wpAny (model X.prog X.w) X.A (inplaceOp op v u) (EP X pins σ Q) X.xe s := ho pins s σ H x y v u Q I rx ry q

/-! ### ints -/
theorem opI {f : Value → Value → Sem Value} {C : Int → Int → Prop} {g : Int → Int → Int}
    (rule : ∀ (i j : Int) (t u : Tok) (s : Shared) (Q : Value → Shared → Prop) (E : Value → Shared → Prop), C i j → Q (.int (g i j) s.toks) { s with toks := s.toks + 1 } → wpAny (model X.prog X.w) X.A (f (.int i t) (.int j u)) Q E s) :
    OpR X f (rI C fun i j => .int (g i j)) := by
  intro pins s σ H x y v u Q I rx ry h
  obtain ⟨i, j, rfl, rfl, hc, q⟩ := h
  obtain ⟨t, rfl⟩ := rx
  obtain ⟨t', rfl⟩ := ry
  exact rule i j t t' s _ _ hc ⟨.int (g i j), H, I.tok _, ⟨_, rfl⟩, q⟩
theorem opI0 {f : Value → Value → Sem Value} {g : Int → Int → Int}
    (rule : ∀ (i j : Int) (t u : Tok) (s : Shared) (Q : Value → Shared → Prop) (E : Value → Shared → Prop), Q (.int (g i j) s.toks) { s with toks := s.toks + 1 } → wpAny (model X.prog X.w) X.A (f (.int i t) (.int j u)) Q E s) :
    OpR X f (rI0 fun i j => .int (g i j)) := by
  intro pins s σ H x y v u Q I rx ry h
  obtain ⟨i, j, rfl, rfl, q⟩ := h
  obtain ⟨t, rfl⟩ := rx
  obtain ⟨t', rfl⟩ := ry
  exact rule i j t t' s _ _ ⟨.int (g i j), H, I.tok _, ⟨_, rfl⟩, q⟩
theorem opB0 {f : Value → Value → Sem Value} {g : Int → Int → Bool}
    (rule : ∀ (i j : Int) (t u : Tok) (s : Shared) (Q : Value → Shared → Prop) (E : Value → Shared → Prop), Q (.bool (g i j)) s → wpAny (model X.prog X.w) X.A (f (.int i t) (.int j u)) Q E s) :
    OpR X f (rI0 fun i j => .bl (g i j)) := by
  intro pins s σ H x y v u Q I rx ry h
  obtain ⟨i, j, rfl, rfl, q⟩ := h
  obtain ⟨t, rfl⟩ := rx
  obtain ⟨t', rfl⟩ := ry
  exact rule i j t t' s _ _ ⟨.bl (g i j), H, I, rfl, q⟩

def CDiv (i j : Int) : Prop := 0 < j ∧ j < 1073741824
def CDivN (i j : Int) : Prop := j ≠ 0 ∧ j.natAbs < 1073741824
def CPow (i j : Int) : Prop := 0 ≤ j ∧ j ≤ 1000000 ∧ i.natAbs < 2 ^ 64
def CMul (i j : Int) : Prop := (-(2 ^ 64) < i ∧ i < 2 ^ 64) ∨ (-(2 ^ 64) < j ∧ j < 2 ^ 64)
theorem CMul.ok {i j : Int} (h : CMul i j) : IntMulOk i j := by
  rcases h with ⟨h1, h2⟩ | ⟨h1, h2⟩
  · exact .of_left (intBits_le_64 h1 h2)
  · exact .of_right (intBits_le_64 h1 h2)
theorem two_pow_nn (k : Nat) : (0 : Int) ≤ 2 ^ k := by
  rw [two_pow_cast]
  exact Int.natCast_nonneg _

theorem op_add : OpR X (binaryOp .Add) (rI0 fun i j => .int (i + j)) := opI0 fun _ _ _ _ _ _ _ q => add_int q
theorem op_sub : OpR X (binaryOp .Sub) (rI0 fun i j => .int (i - j)) := opI0 fun _ _ _ _ _ _ _ q => sub_int q
theorem op_mul : OpR X (binaryOp .Mult) (rI CMul fun i j => .int (i * j)) := opI fun _ _ _ _ _ _ _ hc q => mul_int q hc.ok
/-- // by a positive divisor -/
theorem op_fdiv : OpR X (binaryOp .FloorDiv) (rI CDiv fun i j => .int (i / j)) := opI fun i j _ _ _ _ _ hc q => by
  have h1 : (0 : Int) < j := hc.1
  have h2 : j < 1073741824 := hc.2
  exact floordiv_int (by omega) (by rw [Int.fdiv_eq_ediv_of_nonneg i (by omega)]; exact q) (.inl (PyProof.noPylong_small (by omega)))
theorem op_fdivN : OpR X (binaryOp .FloorDiv) (rI CDivN fun i j => .int (i.fdiv j)) := opI fun _ _ _ _ _ _ _ hc q => floordiv_int hc.1 q (.inl (PyProof.noPylong_small hc.2))
/-- % by a positive divisor of any size -/
theorem op_mod : OpR X (binaryOp .Mod) (rI (fun _ j => 0 < j) fun i j => .int (i % j)) := opI fun i j _ _ _ _ _ hc q => by
  have h1 : (0 : Int) < j := hc
  exact mod_int' (by omega) (by rw [Int.fmod_eq_emod_of_nonneg i (by omega)]; exact q)
theorem op_modN : OpR X (binaryOp .Mod) (rI (fun _ j => j ≠ 0) fun i j => .int (i.fmod j)) := opI fun _ _ _ _ _ _ _ hc q => mod_int' hc q
theorem op_pow : OpR X (binaryOp .Pow) (rI CPow fun i j => .int (i ^ j.toNat)) := opI fun _ _ _ _ _ _ _ hc q => pow_int_small hc.1 hc.2.1 hc.2.2 q
theorem op_shl : OpR X (binaryOp .LShift) (rI CPow fun i j => .int (i * 2 ^ j.toNat)) := opI fun _ _ _ _ _ _ _ hc q => lshift_int_small hc.1 hc.2.1 hc.2.2 q
theorem op_shr : OpR X (binaryOp .RShift) (rI (fun _ j => 0 ≤ j) fun i j => .int (i / 2 ^ j.toNat)) := opI fun i j _ _ _ _ _ hc q =>
  rshift_int hc (by rw [Int.fdiv_eq_ediv_of_nonneg i (two_pow_nn _)]; exact q)
theorem op_and : OpR X (binaryOp .BitAnd) (rI0 fun i j => .int (Builtin.bitAnd i j)) := opI0 fun _ _ _ _ _ _ _ q => and_int q
theorem op_or : OpR X (binaryOp .BitOr) (rI0 fun i j => .int (Builtin.bitOr i j)) := opI0 fun _ _ _ _ _ _ _ q => or_int q
theorem op_xor : OpR X (binaryOp .BitXor) (rI0 fun i j => .int (Builtin.bitXor i j)) := opI0 fun _ _ _ _ _ _ _ q => xor_int q

theorem iop_add : OpR X (inplaceOp .Add) (rI0 fun i j => .int (i + j)) := opI0 fun _ _ _ _ _ _ _ q => iadd_int q
theorem iop_sub : OpR X (inplaceOp .Sub) (rI0 fun i j => .int (i - j)) := opI0 fun _ _ _ _ _ _ _ q => isub_int q
theorem iop_mul : OpR X (inplaceOp .Mult) (rI CMul fun i j => .int (i * j)) := opI fun _ _ _ _ _ _ _ hc q => imul_int q hc.ok
theorem iop_fdiv : OpR X (inplaceOp .FloorDiv) (rI CDiv fun i j => .int (i / j)) := opI fun i j _ _ _ _ _ hc q => by
  have h1 : (0 : Int) < j := hc.1
  have h2 : j < 1073741824 := hc.2
  exact ifloordiv_int (by omega) (by rw [Int.fdiv_eq_ediv_of_nonneg i (by omega)]; exact q) (.inl (PyProof.noPylong_small (by omega)))
theorem iop_mod : OpR X (inplaceOp .Mod) (rI (fun _ j => 0 < j) fun i j => .int (i % j)) := opI fun i j _ _ _ _ _ hc q => by
  have h1 : (0 : Int) < j := hc
  exact imod_int (by omega) (by rw [Int.fmod_eq_emod_of_nonneg i (by omega)]; exact q)
theorem iop_shl : OpR X (inplaceOp .LShift) (rI CPow fun i j => .int (i * 2 ^ j.toNat)) := opI fun _ _ _ _ _ _ _ hc q => ilshift_int_small hc.1 hc.2.1 hc.2.2 q
theorem iop_shr : OpR X (inplaceOp .RShift) (rI (fun _ j => 0 ≤ j) fun i j => .int (i / 2 ^ j.toNat)) := opI fun i j _ _ _ _ _ hc q =>
  irshift_int hc (by rw [Int.fdiv_eq_ediv_of_nonneg i (two_pow_nn _)]; exact q)
theorem iop_and : OpR X (inplaceOp .BitAnd) (rI0 fun i j => .int (Builtin.bitAnd i j)) := opI0 fun _ _ _ _ _ _ _ q => iand_int q
theorem iop_or : OpR X (inplaceOp .BitOr) (rI0 fun i j => .int (Builtin.bitOr i j)) := opI0 fun _ _ _ _ _ _ _ q => ior_int q
theorem iop_xor : OpR X (inplaceOp .BitXor) (rI0 fun i j => .int (Builtin.bitXor i j)) := opI0 fun _ _ _ _ _ _ _ q => ixor_int q

theorem unI {f : Value → Sem Value} {g : Int → Int}
    (rule : ∀ (i : Int) (t : Tok) (s : Shared) (Q : Value → Shared → Prop) (E : Value → Shared → Prop), Q (.int (g i) s.toks) { s with toks := s.toks + 1 } → wpAny (model X.prog X.w) X.A (f (.int i t)) Q E s) :
    UnR X f (rU fun i => .int (g i)) := by
  intro pins s σ H x v Q I rx h
  obtain ⟨i, rfl, q⟩ := h
  obtain ⟨t, rfl⟩ := rx
  exact rule i t s _ _ ⟨.int (g i), H, I.tok _, ⟨_, rfl⟩, q⟩
theorem un_neg : UnR X (unaryOp .USub) (rU fun i => .int (-i)) := unI fun _ _ _ _ _ q => neg_int q
theorem un_inv : UnR X (unaryOp .Invert) (rU fun i => .int (Builtin.bitNot i)) := unI fun _ _ _ _ _ q => invert_int q

/-! ### bools among ints: n += (a < b) -/
theorem op_add_ib : OpR X (binaryOp .Add) (fun x y H Q => ∃ i k, x = .int i ∧ y = .bl k ∧ Q (.int (i + b2i k)) H) := by
  intro pins s σ H x y v u Q I rx ry h
  obtain ⟨i, k, rfl, rfl, q⟩ := h
  obtain ⟨t, rfl⟩ := rx
  cases ry
  exact add_int_bool ⟨.int (i + b2i k), H, I.tok _, ⟨_, rfl⟩, q⟩
end

/-! ### comparisons -/
/-- the scalars that == tells apart as data does -/
def scal : V → V → Bool
  | .non, .non => true | .non, .int _ => true | .int _, .non => true | .non, .bl _ => true | .bl _, .non => true | .non, .str _ => true | .str _, .non => true
  | .int _, .int _ => true | .bl _, .bl _ => true | .str _, .str _ => true | .byt _, .byt _ => true
  | .int _, .str _ => true | .str _, .int _ => true | .bl _, .str _ => true | .str _, .bl _ => true
  | _, _ => false
def rEq : R2 := fun x y H Q => scal x y = true ∧ Q (.bl (decide (x = y))) H
def rNe : R2 := fun x y H Q => scal x y = true ∧ Q (.bl (!decide (x = y))) H

theorem dec_int {i j : Int} : decide (V.int i = V.int j) = (i == j) := by
  rw [Bool.eq_iff_iff]
  simp
theorem dec_bl {i j : Bool} : decide (V.bl i = V.bl j) = (i == j) := by
  rw [Bool.eq_iff_iff]
  simp
theorem dec_str {i j : Str} : decide (V.str i = V.str j) = (i == j) := by
  rw [Bool.eq_iff_iff]
  simp
theorem dec_byt {i j : Array UInt8} : decide (V.byt i = V.byt j) = (i.toList == j.toList) := by
  rw [Bool.eq_iff_iff]
  cases i
  cases j
  simp

section
variable {X : Cx} {a b c : Expr} {ta tb tc : TE} {pos : Pos}
theorem fin_bl {pins : List (Addr × Obj)} {σ : St} {H : Hp} {s : Shared} {Q : VK} {k k' : Bool} (I : Inv X pins σ H s) (q : Q (.bl k) H) (e : k = k') : EP X pins σ Q (.bool k') s := by
  subst e
  exact ⟨.bl k, H, I, rfl, q⟩
theorem op_eq : OpR X (compareOp .Eq) rEq := by
  intro pins s σ H x y v u Q I rx ry h
  obtain ⟨hs, q⟩ := h
  cases x with
  | non =>
    cases rx
    cases y with
    | non => cases ry; exact PySem.EqNone.eq_none_none (fin_bl I q (by simp))
    | bl j => cases ry; exact PySem.EqNone.eq_none_bool (fin_bl I q (by simp))
    | int j => obtain ⟨t', rfl⟩ := ry; exact PySem.EqNone.eq_none_int (fin_bl I q (by simp))
    | str j => obtain ⟨t', rfl⟩ := ry; exact PySem.EqNone.eq_none_str (fin_bl I q (by simp))
    | _ => exact absurd (show false = true from hs) Bool.false_ne_true
  | bl i =>
    cases rx
    cases y with
    | non => cases ry; exact PySem.EqNone.eq_bool_none (fin_bl I q (by simp))
    | bl j => cases ry; exact eq_bool (fin_bl I q dec_bl)
    | str j => obtain ⟨t', rfl⟩ := ry; exact PySem.EqMixed.eq_bool_str (fin_bl I q (by simp))
    | _ => exact absurd (show false = true from hs) Bool.false_ne_true
  | int i =>
    obtain ⟨t, rfl⟩ := rx
    cases y with
    | non => cases ry; exact PySem.EqNone.eq_int_none (fin_bl I q (by simp))
    | int j => obtain ⟨t', rfl⟩ := ry; exact eq_int (fin_bl I q dec_int)
    | str j => obtain ⟨t', rfl⟩ := ry; exact PySem.EqMixed.eq_int_str (fin_bl I q (by simp))
    | _ => exact absurd (show false = true from hs) Bool.false_ne_true
  | str i =>
    obtain ⟨t, rfl⟩ := rx
    cases y with
    | non => cases ry; exact PySem.EqNone.eq_str_none (fin_bl I q (by simp))
    | bl j => cases ry; exact PySem.EqMixed.eq_str_bool (fin_bl I q (by simp))
    | int j => obtain ⟨t', rfl⟩ := ry; exact PySem.EqMixed.eq_str_int (fin_bl I q (by simp))
    | str j => obtain ⟨t', rfl⟩ := ry; exact eq_str (fin_bl I q dec_str)
    | _ => exact absurd (show false = true from hs) Bool.false_ne_true
  | byt i =>
    obtain ⟨t, rfl⟩ := rx
    cases y with
    | byt j => obtain ⟨t', rfl⟩ := ry; exact PySem.W.eq_bytes (fin_bl I q dec_byt)
    | _ => exact absurd (show false = true from hs) Bool.false_ne_true
  | _ => cases y <;> exact absurd (show false = true from hs) Bool.false_ne_true
theorem op_ne : OpR X (compareOp .NotEq) rNe := by
  intro pins s σ H x y v u Q I rx ry h
  obtain ⟨hs, q⟩ := h
  cases x with
  | non =>
    cases rx
    cases y with
    | non => cases ry; exact PySem.EqNone.ne_none_none (fin_bl I q (by simp))
    | bl j => cases ry; exact PySem.EqNone.ne_none_bool (fin_bl I q (by simp))
    | int j => obtain ⟨t', rfl⟩ := ry; exact PySem.EqNone.ne_none_int (fin_bl I q (by simp))
    | str j => obtain ⟨t', rfl⟩ := ry; exact PySem.EqNone.ne_none_str (fin_bl I q (by simp))
    | _ => exact absurd (show false = true from hs) Bool.false_ne_true
  | bl i =>
    cases rx
    cases y with
    | non => cases ry; exact PySem.EqNone.ne_bool_none (fin_bl I q (by simp))
    | bl j => cases ry; exact ne_bool (fin_bl I q (congrArg not dec_bl))
    | str j => obtain ⟨t', rfl⟩ := ry; exact PySem.EqMixed.ne_bool_str (fin_bl I q (by simp))
    | _ => exact absurd (show false = true from hs) Bool.false_ne_true
  | int i =>
    obtain ⟨t, rfl⟩ := rx
    cases y with
    | non => cases ry; exact PySem.EqNone.ne_int_none (fin_bl I q (by simp))
    | int j => obtain ⟨t', rfl⟩ := ry; exact ne_int (fin_bl I q (congrArg not dec_int))
    | str j => obtain ⟨t', rfl⟩ := ry; exact PySem.EqMixed.ne_int_str (fin_bl I q (by simp))
    | _ => exact absurd (show false = true from hs) Bool.false_ne_true
  | str i =>
    obtain ⟨t, rfl⟩ := rx
    cases y with
    | non => cases ry; exact PySem.EqNone.ne_str_none (fin_bl I q (by simp))
    | bl j => cases ry; exact PySem.EqMixed.ne_str_bool (fin_bl I q (by simp))
    | int j => obtain ⟨t', rfl⟩ := ry; exact PySem.EqMixed.ne_str_int (fin_bl I q (by simp))
    | str j => obtain ⟨t', rfl⟩ := ry; exact ne_str (fin_bl I q (congrArg not dec_str))
    | _ => exact absurd (show false = true from hs) Bool.false_ne_true
  | byt i =>
    obtain ⟨t, rfl⟩ := rx
    cases y with
    | byt j => obtain ⟨t', rfl⟩ := ry; exact PySem.W.ne_bytes (fin_bl I q (congrArg not dec_byt))
    | _ => exact absurd (show false = true from hs) Bool.false_ne_true
  | _ => cases y <;> exact absurd (show false = true from hs) Bool.false_ne_true

theorem op_lt : OpR X (compareOp .Lt) (rI0 fun i j => .bl (decide (i < j))) := opB0 fun _ _ _ _ _ _ _ q => lt_int q
theorem op_le : OpR X (compareOp .LtE) (rI0 fun i j => .bl (decide (i ≤ j))) := opB0 fun _ _ _ _ _ _ _ q => le_int q
theorem op_gt : OpR X (compareOp .Gt) (rI0 fun i j => .bl (decide (j < i))) := opB0 fun _ _ _ _ _ _ _ q => gt_int q
theorem op_ge : OpR X (compareOp .GtE) (rI0 fun i j => .bl (decide (j ≤ i))) := opB0 fun _ _ _ _ _ _ _ q => ge_int q
theorem op_lt_str : OpR X (compareOp .Lt) (fun x y H Q => ∃ i j, x = .str i ∧ y = .str j ∧ Q (.bl (decide (i.cps.toList < j.cps.toList))) H) := by
  intro pins s σ H x y v u Q I rx ry h
  obtain ⟨i, j, rfl, rfl, q⟩ := h
  obtain ⟨t, rfl⟩ := rx
  obtain ⟨t', rfl⟩ := ry
  exact lt_str (fin_bl I q rfl)
/-- the one string within the other -/
theorem op_in_str : OpR X (compareOp .In) (fun x y H Q => ∃ i j, x = .str i ∧ y = .str j ∧ Q (.bl (!(Builtin.Str.occurrences j i 0 j.length 1).isEmpty)) H) := by
  intro pins s σ H x y v u Q I rx ry h
  obtain ⟨i, j, rfl, rfl, q⟩ := h
  obtain ⟨t, rfl⟩ := rx
  obtain ⟨t', rfl⟩ := ry
  exact in_str (fin_bl I q rfl)

/-- is None, is not None: the right side a value none -/
theorem op_isN : OpR X (compareOp .Is) (fun x y H Q => y = .non ∧ Q (.bl (decide (x = .non))) H) := by
  intro pins s σ H x y v u Q I rx ry h
  obtain ⟨rfl, q⟩ := h
  cases ry
  refine is_none_gen (fin_bl I q ?_)
  cases x <;> first
    | (cases rx; rfl)
    | (obtain ⟨t, rfl⟩ := rx; rfl)
theorem op_notN : OpR X (compareOp .IsNot) (fun x y H Q => y = .non ∧ Q (.bl (!decide (x = .non))) H) := by
  intro pins s σ H x y v u Q I rx ry h
  obtain ⟨rfl, q⟩ := h
  cases ry
  refine isnot_none_gen (fin_bl I q ?_)
  cases x <;> first
    | (cases rx; rfl)
    | (obtain ⟨t, rfl⟩ := rx; rfl)

theorem op_notin_str : OpR X (compareOp .NotIn) (fun x y H Q => ∃ i j, x = .str i ∧ y = .str j ∧ Q (.bl (!(!(Builtin.Str.occurrences j i 0 j.length 1).isEmpty))) H) := by
  intro pins s σ H x y v u Q I rx ry h
  obtain ⟨i, j, rfl, rfl, q⟩ := h
  obtain ⟨t, rfl⟩ := rx
  obtain ⟨t', rfl⟩ := ry
  exact notIn_str (fin_bl I q rfl)
/-- is, is not of two objects that are tracked lists or instances -/
def isObj : HO → Bool
  | .lst _ => true
  | .ins _ _ _ => true
  | _ => false
theorem obj_there {pins : List (Addr × Obj)} {s : Shared} {σ : St} {H : Hp} {a : Addr} {o : HO} (I : Inv X pins σ H s) (h : H a = some o) (p : isObj o = true) : ∃ ob, s.heap.get? a = some ob ∧ ob.cls ≠ .type "tuple" := by
  cases o with
  | lst xs =>
    obtain ⟨_, its, n, _, e⟩ : xs.length ≤ sizeLine ∧ ∃ (its : List Value) (n : Nat), Vals xs its ∧ s.heap.get? a = some { cls := .type "list", data := .seq its.toArray n } := I.hok a _ h
    exact ⟨_, e, (by show Value.type "list" ≠ .type "tuple"; decide +kernel)⟩
  | ins C dx fs =>
    have x := I.hok a _ h
    obtain ⟨_, _, _, e, _⟩ := x
    exact ⟨_, e, (by show Value.ref C ≠ .type "tuple"; exact fun z => by cases z)⟩
  | _ => exact absurd (show false = true from p) Bool.false_ne_true
theorem op_is_ref : OpR X (compareOp .Is) (fun x y H Q => ∃ a b oa ob, x = .ref a ∧ y = .ref b ∧ H a = some oa ∧ isObj oa = true ∧ H b = some ob ∧ isObj ob = true ∧ Q (.bl (decide (a = b))) H) := by
  intro pins s σ H x y v u Q I rx ry h
  obtain ⟨a, b, oa, ob, rfl, rfl, ha, pa, hb, pb, q⟩ := h
  cases rx
  cases ry
  obtain ⟨o1, e1, n1⟩ := obj_there I ha pa
  obtain ⟨o2, e2, _⟩ := obj_there I hb pb
  by_cases z : a = b
  · subst z
    exact wpAny_is_ref_self (fin_bl I q (by simp))
  · exact wpAny_is_ref_other z e1 e2 n1 (fin_bl I q (by simp [z]))
theorem op_isnot_ref : OpR X (compareOp .IsNot) (fun x y H Q => ∃ a b oa ob, x = .ref a ∧ y = .ref b ∧ H a = some oa ∧ isObj oa = true ∧ H b = some ob ∧ isObj ob = true ∧ Q (.bl (!decide (a = b))) H) := by
  intro pins s σ H x y v u Q I rx ry h
  obtain ⟨a, b, oa, ob, rfl, rfl, ha, pa, hb, pb, q⟩ := h
  cases rx
  cases ry
  obtain ⟨o1, e1, n1⟩ := obj_there I ha pa
  obtain ⟨o2, e2, _⟩ := obj_there I hb pb
  by_cases z : a = b
  · subst z
    exact wpAny_isNot_ref_self (fin_bl I q (by simp))
  · exact wpAny_isNot_ref_other z e1 e2 n1 (fin_bl I q (by simp [z]))

/-- two rules for one operation: by cases -/
theorem OpR.or {f : Value → Value → Sem Value} {r r' : R2} (h : OpR X f r) (h' : OpR X f r') : OpR X f (fun x y H Q => r x y H Q ∨ r' x y H Q) := by
  intro pins s σ H x y v u Q I rx ry q
  rcases q with q | q
  · exact h pins s σ H x y v u Q I rx ry q
  · exact h' pins s σ H x y v u Q I rx ry q

theorem nomark (b : Expr) {op : CmpOp} (h : op ≠ .In := by decide) (h2 : op ≠ .NotIn := by decide) : behindInMarks op b = false := by
  have e1 : (op == CmpOp.In) = false := by cases op <;> first | rfl | exact absurd rfl h
  have e2 : (op == CmpOp.NotIn) = false := by cases op <;> first | rfl | exact absurd rfl h2
  cases b <;> simp [behindInMarks, e1, e2]
/-- a comparison as a value; hm: nomark b, or (for in, not in) by with_unfolding_all rfl -/
theorem pe_cmpR {op : CmpOp} {r : R2} (ho : OpR X (compareOp op) r) (ha : PE X a ta) (hb : PE X b tb) (hm : behindInMarks op b = false) : PE X (.Compare a [op] [b] pos) (tOp r ta tb) := by
  intro pins s σ H Q I h
  exact wpAny_Compare1 (binT ha hb I h fun v u s2 x y H2 I2 rx ry q => ho pins s2 σ H2 x y v u Q I2 rx ry q) hm
/-- a reading of a value as a test -/
def tTest (t : TE) : TT := fun σ H Q => t σ H fun x H' => ∃ k, x = .bl k ∧ Q k H'
theorem pt_cmpR {op : CmpOp} {r : R2} (ho : OpR X (compareOp op) r) (ha : PE X a ta) (hb : PE X b tb) (hm : behindInMarks op b = false) : PT X (.Compare a [op] [b] pos) (tTest (tOp r ta tb)) := by
  intro pins s σ H Q I h
  refine wpAny_isTrue_Compare1 (thn (ha pins s σ H _ I h) fun v s1 ⟨x, H1, I1, r1, q1⟩ => thn (hb pins s1 σ H1 _ I1 q1) fun u s2 ⟨y, H2, I2, r2, q2⟩ =>
    thn (ho pins s2 σ H2 x y v u _ I2 r1 r2 q2) fun c s3 ⟨z, H3, I3, r3, k, e, q3⟩ => ?_) hm
  subst e
  cases r3
  exact wpAny_truthy_bool ⟨H3, I3, q3⟩
/-- a op1 b op2 c -/
def tChain (r r' : R2) (ta tb tc : TE) : TE := fun σ H Q => ta σ H fun x H1 => tb σ H1 fun y H2 => r x y H2 fun z H3 => ∃ k, z = .bl k ∧
  (if k = true then tc σ H3 fun w' H4 => r' y w' H4 Q else Q (.bl false) H3)
theorem pe_chain {op op' : CmpOp} {r r' : R2} (ho : OpR X (compareOp op) r) (ho' : OpR X (compareOp op') r') (ha : PE X a ta) (hb : PE X b tb) (hc : PE X c tc)
    (hm : lastMarks [op, op'] [b, c] = false := by with_unfolding_all rfl) : PE X (.Compare a [op, op'] [b, c] pos) (tChain r r' ta tb tc) := by
  intro pins s σ H Q I h
  refine Compare_chain (thn (ha pins s σ H _ I h) fun v s1 ⟨x, H1, I1, r1, q1⟩ => chain_link (thn (hb pins s1 σ H1 _ I1 q1) fun u s2 ⟨y, H2, I2, r2, q2⟩ =>
    thn (ho pins s2 σ H2 x y v u _ I2 r1 r2 q2) fun d s3 ⟨z, H3, I3, r3, k, e, q3⟩ => ?_)) hm
  subst e
  cases r3
  refine wpAny_truthy_bool ?_
  cases k with
  | false => exact ite_ff ⟨.bl false, H3, I3, rfl, q3⟩
  | true => exact ite_tt (chain_last (thn (hc pins s3 σ H3 _ I3 q3) fun w' s4 ⟨z', H4, I4, r4, q4⟩ => ho' pins s4 σ H4 y z' u w' Q I4 r2 r4 q4))
theorem pt_chain {op op' : CmpOp} {r r' : R2} (ho : OpR X (compareOp op) r) (ho' : OpR X (compareOp op') r') (ha : PE X a ta) (hb : PE X b tb) (hc : PE X c tc)
    (hm : lastMarks [op, op'] [b, c] = false := by with_unfolding_all rfl) : PT X (.Compare a [op, op'] [b, c] pos) (tTest (tChain r r' ta tb tc)) := by
  intro pins s σ H Q I h
  refine isTrue_chain (thn (ha pins s σ H _ I h) fun v s1 ⟨x, H1, I1, r1, q1⟩ => test_link (thn (hb pins s1 σ H1 _ I1 q1) fun u s2 ⟨y, H2, I2, r2, q2⟩ =>
    thn (ho pins s2 σ H2 x y v u _ I2 r1 r2 q2) fun d s3 ⟨z, H3, I3, r3, k, e, q3⟩ => ?_)) hm
  subst e
  cases r3
  refine wpAny_truthy_bool ?_
  cases k with
  | false =>
    obtain ⟨k', e', q'⟩ := q3
    cases e'
    exact ite_ff ⟨H3, I3, q'⟩
  | true =>
    refine ite_tt (test_last (thn (hc pins s3 σ H3 _ I3 q3) fun w' s4 ⟨z', H4, I4, r4, q4⟩ => thn (ho' pins s4 σ H4 y z' u w' _ I4 r2 r4 q4) fun d' s5 ⟨z2, H5, I5, r5, k2, e2, q5⟩ => ?_))
    subst e2
    cases r5
    exact wpAny_truthy_bool ⟨H5, I5, q5⟩

/-! ### truth -/
/-- a value's truth by the abstract heap -/
def TruV (K : PySem.W.Frag) (x : V) (H : Hp) (k : Bool) : Prop :=
  match x with
  | .non => k = false
  | .bl b => k = b
  | .int i => k = (i != 0)
  | .str y => y.length ≤ sizeLine ∧ k = ((y.length : Int) != 0)
  | .byt y => y.size ≤ sizeLine ∧ k = ((y.size : Int) != 0)
  | .ref p => (∃ xs, SqL K H p xs ∧ k = !xs.isEmpty) ∨ (∃ xs, SqT K H p xs ∧ k = !xs.isEmpty) ∨ ∃ kvs, H p = some (.dK kvs) ∧ k = !kvs.isEmpty
  | _ => False
theorem isEmpty_kv {κ : Type} {kvs : List (κ × V)} {vs : List (κ × Value)} (r : KV kvs vs) : (!vs.isEmpty) = !kvs.isEmpty := by
  cases r <;> rfl
theorem isEmpty_of {xs : List V} {its : List Value} (r : Vals xs its) : (!its.toArray.isEmpty) = !xs.isEmpty := by
  cases r <;> simp
theorem line63 : (sizeLine : Nat) < 2 ^ 63 := by rw [sizeLine_eq]; decide
theorem tru_ok : TruR X (fun x H Q => ∃ k, TruV X.K x H k ∧ Q k H) := by
  intro pins s σ H x v Q I rx h
  obtain ⟨k, e, q⟩ := h
  have hl := line63
  have hs : sizeLine = 16777216 := sizeLine_eq
  cases x with
  | non =>
    cases rx
    have e' : k = false := e
    subst e'
    exact truthy_none ⟨H, I, q⟩
  | bl b =>
    cases rx
    have e' : k = b := e
    subst e'
    exact wpAny_truthy_bool ⟨H, I, q⟩
  | int i =>
    obtain ⟨t, rfl⟩ := rx
    have e' : k = (i != 0) := e
    subst e'
    exact PySem.P.truthy_int ⟨H, I, q⟩
  | str y =>
    obtain ⟨t, rfl⟩ := rx
    obtain ⟨hy, e'⟩ : y.length ≤ sizeLine ∧ k = ((y.length : Int) != 0) := e
    subst e'
    exact PySem.P.truthy_str (by omega) ⟨H, I.tok _, q⟩
  | byt y =>
    obtain ⟨t, rfl⟩ := rx
    obtain ⟨hy, e'⟩ : y.size ≤ sizeLine ∧ k = ((y.size : Int) != 0) := e
    subst e'
    exact PySem.W.truthy_bytes (by omega) ⟨H, I.tok _, q⟩
  | ref p =>
    cases rx
    have e' : (∃ xs, SqL X.K H p xs ∧ k = !xs.isEmpty) ∨ (∃ xs, SqT X.K H p xs ∧ k = !xs.isEmpty) ∨ ∃ kvs, H p = some (.dK kvs) ∧ k = !kvs.isEmpty := e
    rcases e' with ⟨xs, hx, e'⟩ | ⟨xs, hx, e'⟩ | ⟨kvs, hx, e'⟩
    · subst e'
      obtain ⟨its, r, pl, hz⟩ := I.list hx
      have hlen := r.length
      exact wpAny_truthy_list pl.isList (by simp only [List.size_toArray]; omega) ⟨H, I.tok _, by rw [isEmpty_of r]; exact q⟩
    · subst e'
      obtain ⟨its, r, pl, hz⟩ := I.tuple hx
      have hlen := r.length
      exact truthy_tuple pl (by simp only [List.size_toArray]; omega) ⟨H, I.tok _, by rw [isEmpty_of r]; exact q⟩
    · subst e'
      obtain ⟨hz, hS, vs, r, m⟩ : kvs.length ≤ sizeLine ∧ (p == sysModules) = false ∧ ∃ vs, KV kvs vs ∧ s.heap.DictOf (mixKind X.prog X.w) p vs := I.hok p _ hx
      have hlen : kvs.length = vs.length := Paired.length r
      exact wpAny_truthy_dict hS m (by omega) ⟨H, I.tok _, by rw [isEmpty_kv r]; exact q⟩
  | _ => exact (show False from e).elim
/-- any expression whose test is its value's truth (a name, a call, a subscript, a field ..: he by fun _ => rfl) -/
theorem pt_truth (ha : PE X a ta) (he : ∀ whole, isTrue a X.env whole = (do let v ← whole; standAt a.pos; holding [v] (truthy v))) :
    PT X a (fun σ H Q => ta σ H fun x H' => ∃ k, TruV X.K x H' k ∧ Q k H') := by
  intro pins s σ H Q I h
  exact isTrue_plain (thn (ha pins s σ H _ I h) fun v s1 ⟨x, H1, I1, r1, q1⟩ => tru_ok pins s1 σ H1 x v Q I1 r1 q1) (he _)

/-! ### strs and bytes -/
theorem pe_byt {x : List UInt8} {k : Nat} : PE X (.Constant (.bytes x) k pos) (fun _ H Q => Q (.byt x.toArray) H) := fun _ _ _ H _ I h => PySem.W.Constant_bytes ⟨.byt x.toArray, H, I.tok _, ⟨_, rfl⟩, h⟩
theorem op_add_str : OpR X (binaryOp .Add) (fun x y H Q => ∃ i j, x = .str i ∧ y = .str j ∧ i.length + j.length ≤ sizeLine ∧ Q (.str (i ++ j)) H) := by
  intro pins s σ H x y v u Q I rx ry h
  obtain ⟨i, j, rfl, rfl, hz, q⟩ := h
  obtain ⟨t, rfl⟩ := rx
  obtain ⟨t', rfl⟩ := ry
  exact add_str (fun t' tk => ⟨.str (i ++ j), H, I.tok _, ⟨_, rfl⟩, q⟩) hz
theorem iop_add_str : OpR X (inplaceOp .Add) (fun x y H Q => ∃ i j, x = .str i ∧ y = .str j ∧ i.length + j.length ≤ sizeLine ∧ Q (.str (i ++ j)) H) := by
  intro pins s σ H x y v u Q I rx ry h
  obtain ⟨i, j, rfl, rfl, hz, q⟩ := h
  obtain ⟨t, rfl⟩ := rx
  obtain ⟨t', rfl⟩ := ry
  exact iadd_str (fun t' tk => ⟨.str (i ++ j), H, I.tok _, ⟨_, rfl⟩, q⟩) hz
theorem op_add_byt : OpR X (binaryOp .Add) (fun x y H Q => ∃ i j, x = .byt i ∧ y = .byt j ∧ i.size + j.size ≤ 16777216 ∧ Q (.byt (i ++ j)) H) := by
  intro pins s σ H x y v u Q I rx ry h
  obtain ⟨i, j, rfl, rfl, hz, q⟩ := h
  obtain ⟨t, rfl⟩ := rx
  obtain ⟨t', rfl⟩ := ry
  exact PySem.W.KBy.add_bytes hz (fun t' tk => ⟨.byt (i ++ j), H, I.tok _, ⟨_, rfl⟩, q⟩)

def PlainIxT (b : Expr) : Prop := ∀ o i, subscripted b false o i = operate [o, i] (getItem o i)
/-- s[i], 0 ≤ i < len -/
theorem pe_item_str (ha : PE X a ta) (hb : PE X b tb) (hs : PlainIxT b) :
    PE X (.Subscript a b pos) (tOp (fun x y H Q => ∃ z i c, x = .str z ∧ y = .int i ∧ 0 ≤ i ∧ i < 2 ^ 63 ∧ i < z.length ∧ z.cps[i.toNat]? = some c ∧ Q (.str ⟨#[c]⟩) H) ta tb) := by
  intro pins s σ H Q I h
  refine Subscript_ (binT ha hb I h fun v u s2 x y H2 I2 rx ry q => ?_)
  obtain ⟨z, i, c, rfl, rfl, h0, h63, h1, hc, q⟩ := q
  obtain ⟨t, rfl⟩ := rx
  obtain ⟨t', rfl⟩ := ry
  have e : seqIndex? i z.length = some i.toNat := PySem.StrLaws.seqIndex_nonneg h0 h1
  exact tail_any (typeIs_str s2 z t) slot_str_getitem.lookup (getItem_str (c := c) (by
    have e1 : decide (i < -(2 ^ 63 : Int)) = false := decide_eq_false (by omega)
    have e2 : decide (i ≥ 2 ^ 63) = false := decide_eq_false (by omega)
    rw [e1, e2] <;> rfl) (by rw [e]; exact hc) ⟨.str ⟨#[c]⟩, H2, I2.tok _, ⟨_, rfl⟩, q⟩) (hs _ _)
/-- b[i], 0 ≤ i < len -/
theorem pe_item_byt (ha : PE X a ta) (hb : PE X b tb) (hs : PlainIxT b) :
    PE X (.Subscript a b pos) (tOp (fun x y H Q => ∃ (z : List UInt8) (i : Int), x = .byt z.toArray ∧ y = .int i ∧ z.length ≤ sizeLine ∧ 0 ≤ i ∧ i < z.length ∧ Q (.int ((z.getD i.toNat 0).toNat : Nat)) H) ta tb) := by
  intro pins s σ H Q I h
  refine Subscript_ (binT ha hb I h fun v u s2 x y H2 I2 rx ry q => ?_)
  obtain ⟨z, i, rfl, rfl, hz, h0, h1, q⟩ := q
  obtain ⟨t, rfl⟩ := rx
  obtain ⟨t', rfl⟩ := ry
  have hl : sizeLine = 16777216 := sizeLine_eq
  exact tail_any (PySem.W.typeIs_bytes s2 z.toArray t) PySem.W.FB.slot_bytes_getitem.lookup (PySem.W.getItem_bytes (by omega) h0 h1 ⟨.int ((z.getD i.toNat 0).toNat : Nat), H2, I2.tok _, ⟨_, rfl⟩, q⟩) (hs _ _)

/-! ### scalar builtins, by CallR -/
theorem vals1 {x : V} {us : List Value} (r : Vals [x] us) : ∃ u, us = [u] ∧ RelV x u := by
  cases r with
  | cons r1 r2 => cases r2; exact ⟨_, rfl, r1⟩
theorem vals2 {x y : V} {us : List Value} (r : Vals [x, y] us) : ∃ u w', us = [u, w'] ∧ RelV x u ∧ RelV y w' := by
  cases r with
  | cons r1 r2 =>
    cases r2 with
    | cons r3 r4 => cases r4; exact ⟨_, _, rfl, r1, r3⟩
theorem call_abs : CallR X (.builtin "abs") (fun xs H Q => ∃ i, xs = [.int i] ∧ Q (.int (if i < 0 then -i else i)) H) := by
  intro pins s σ H xs us Q I r h
  obtain ⟨i, rfl, q⟩ := h
  obtain ⟨u, rfl, t, rfl⟩ := vals1 r
  exact call_abs_int fun u tk => ⟨.int (if i < 0 then -i else i), H, I.tok _, ⟨_, rfl⟩, q⟩
theorem call_max2 (hc : X.calm = true) : CallR X (.builtin "max") (fun xs H Q => ∃ i j, xs = [.int i, .int j] ∧ Q (.int (if j > i then j else i)) H) := by
  intro pins s σ H xs us Q I r h
  obtain ⟨i, j, rfl, q⟩ := h
  obtain ⟨u, w', rfl, ⟨t, rfl⟩, ⟨t', rfl⟩⟩ := vals2 r
  refine max_two_ints (I.ok.hd hc) fun h' tk k => ⟨_, H, I.kept k, ?_, q⟩
  by_cases hj : j > i
  · rw [if_pos hj, if_pos hj]; exact ⟨_, rfl⟩
  · rw [if_neg hj, if_neg hj]; exact ⟨_, rfl⟩
theorem call_min2 (hc : X.calm = true) : CallR X (.builtin "min") (fun xs H Q => ∃ i j, xs = [.int i, .int j] ∧ Q (.int (if j < i then j else i)) H) := by
  intro pins s σ H xs us Q I r h
  obtain ⟨i, j, rfl, q⟩ := h
  obtain ⟨u, w', rfl, ⟨t, rfl⟩, ⟨t', rfl⟩⟩ := vals2 r
  refine min_two_ints (I.ok.hd hc) fun h' tk k => ⟨_, H, I.kept k, ?_, q⟩
  by_cases hj : j < i
  · rw [if_pos hj, if_pos hj]; exact ⟨_, rfl⟩
  · rw [if_neg hj, if_neg hj]; exact ⟨_, rfl⟩
theorem call_int1 : CallR X (.type "int") (fun xs H Q => (∃ i, xs = [.int i] ∧ Q (.int i) H) ∨ ∃ k, xs = [.bl k] ∧ Q (.int (if k then 1 else 0)) H) := by
  intro pins s σ H xs us Q I r h
  rcases h with ⟨i, rfl, q⟩ | ⟨k, rfl, q⟩
  · obtain ⟨u, rfl, t, rfl⟩ := vals1 r
    exact call_int_int ⟨.int i, H, I, ⟨_, rfl⟩, q⟩
  · obtain ⟨u, rfl, r1⟩ := vals1 r
    cases r1
    exact call_int_bool ⟨.int (if k then 1 else 0), H, I.tok _, ⟨_, rfl⟩, q⟩
theorem call_bool1 : CallR X (.type "bool") (fun xs H Q => (∃ i, xs = [.int i] ∧ Q (.bl (i != 0)) H) ∨ ∃ k, xs = [.bl k] ∧ Q (.bl k) H) := by
  intro pins s σ H xs us Q I r h
  rcases h with ⟨i, rfl, q⟩ | ⟨k, rfl, q⟩
  · obtain ⟨u, rfl, t, rfl⟩ := vals1 r
    exact call_bool_int ⟨.bl (i != 0), H, I, rfl, q⟩
  · obtain ⟨u, rfl, r1⟩ := vals1 r
    cases r1
    exact call_bool_bool ⟨.bl k, H, I, rfl, q⟩
theorem call_str_int : CallR X (.type "str") (fun xs H Q => ∃ i, xs = [.int i] ∧ i.natAbs.log2 < 1920 ∧ Q (.str (toString i)) H) := by
  intro pins s σ H xs us Q I r h
  obtain ⟨i, rfl, hz, q⟩ := h
  obtain ⟨u, rfl, t, rfl⟩ := vals1 r
  exact PySem.P.str_of_int hz ⟨.str _, H, I.tok _, ⟨_, rfl⟩, q⟩
theorem call_ord : CallR X (.builtin "ord") (fun xs H Q => ∃ x, xs = [.str x] ∧ x.length = 1 ∧ Q (.int (x.cps.getD 0 0 : Nat)) H) := by
  intro pins s σ H xs us Q I r h
  obtain ⟨x, rfl, hz, q⟩ := h
  obtain ⟨u, rfl, t, rfl⟩ := vals1 r
  exact ord_of_one hz ⟨.int _, H, I.tok _, ⟨_, rfl⟩, q⟩
theorem call_chr : CallR X (.builtin "chr") (fun xs H Q => ∃ i, xs = [.int i] ∧ 0 ≤ i ∧ i ≤ 1114111 ∧ Q (.str ⟨#[i.toNat]⟩) H) := by
  intro pins s σ H xs us Q I r h
  obtain ⟨i, rfl, h0, h1, q⟩ := h
  obtain ⟨u, rfl, t, rfl⟩ := vals1 r
  exact chr_of_range h0 h1 ⟨.str _, H, I.tok _, ⟨_, rfl⟩, q⟩
/-- len of a str, a bytes, a list, a tuple -/
def LenV (K : PySem.W.Frag) (x : V) (H : Hp) (n : Nat) : Prop :=
  match x with
  | .str y => y.length ≤ sizeLine ∧ n = y.length
  | .byt y => y.size ≤ sizeLine ∧ n = y.size
  | .ref p => (∃ xs, SqL K H p xs ∧ n = xs.length) ∨ ∃ xs, SqT K H p xs ∧ n = xs.length
  | _ => False
theorem call_len : CallR X (.builtin "len") (fun xs H Q => ∃ x n, xs = [x] ∧ LenV X.K x H n ∧ Q (.int n) H) := by
  intro pins s σ H xs us Q I r h
  obtain ⟨x, n, rfl, e, q⟩ := h
  obtain ⟨u, rfl, rx⟩ := vals1 r
  have hl := line63
  have hs : sizeLine = 16777216 := sizeLine_eq
  cases x with
  | str y =>
    obtain ⟨t, rfl⟩ := rx
    obtain ⟨hy, e'⟩ : y.length ≤ sizeLine ∧ n = y.length := e
    subst e'
    exact len_str (by omega) ⟨.int _, H, I.tok _, ⟨_, rfl⟩, q⟩
  | byt y =>
    obtain ⟨t, rfl⟩ := rx
    obtain ⟨hy, e'⟩ : y.size ≤ sizeLine ∧ n = y.size := e
    subst e'
    exact PySem.W.len_bytes (by omega) ⟨.int _, H, I.tok _, ⟨_, rfl⟩, q⟩
  | ref p =>
    cases rx
    have e' : (∃ xs, SqL X.K H p xs ∧ n = xs.length) ∨ ∃ xs, SqT X.K H p xs ∧ n = xs.length := e
    rcases e' with ⟨xs, hx, e'⟩ | ⟨xs, hx, e'⟩
    · subst e'
      obtain ⟨its, r', pl, hz⟩ := I.list hx
      have hlen := r'.length
      exact Calls.call_len_list pl.isList (by simp only [List.size_toArray]; omega) ⟨.int xs.length, H, I.tok _, ⟨_, by simp only [List.size_toArray]; rw [hlen]⟩, q⟩
    · subst e'
      obtain ⟨its, r', pl, hz⟩ := I.tuple hx
      have hlen := r'.length
      exact len_tuple pl (by simp only [List.size_toArray]; omega) ⟨.int xs.length, H, I.tok _, ⟨_, by simp only [List.size_toArray]; rw [hlen]⟩, q⟩
  | _ => exact (show False from e).elim
/-- divmod: a new tuple -/
theorem call_divmod : CallR X (.builtin "divmod") (fun xs H Q => ∃ i j, xs = [.int i, .int j] ∧ CDiv i j ∧ ∀ p, H p = none → Q (.ref p) (upd H p (.tup [.int (i / j), .int (i % j)]))) := by
  intro pins s σ H xs us Q I r h
  obtain ⟨i, j, rfl, ⟨h1, h2⟩, q⟩ := h
  obtain ⟨u, w', rfl, ⟨t, rfl⟩, ⟨t', rfl⟩⟩ := vals2 r
  refine divmod_int (by omega) ?_ (.inl (PyProof.noPylong_small (by omega)))
  rw [Int.fdiv_eq_ediv_of_nonneg i (by omega), Int.fmod_eq_emod_of_nonneg i (by omega)]
  have hn : H s.heap.objs.size = none := I.hok.fresh (Nat.le_refl _)
  refine ⟨.ref s.heap.objs.size, _, ?_, rfl, q _ hn⟩
  refine I.laid (fun b o e => Heap.get?_push_of_some _ e) (Nat.le_refl _) ⟨by simp only [List.length_cons, List.length_nil]; rw [sizeLine_eq]; decide, [.int (i / j) s.toks, .int (i % j) (s.toks + 1)], .cons ⟨_, rfl⟩ (.cons ⟨_, rfl⟩ .nil), ?_⟩
  exact ⟨_, Heap.get?_push_size s.heap rfl, rfl, 0, rfl⟩
end
end L2

namespace L2
open PySem PySem.Spec PyProof.Rows

/-! ### an instance, its attributes a map -/
structure ObjM (h : Heap) (x dx C : Addr) (mA : Str → Option Value) : Prop where
  obj : h.get? x = some (PySem.W.instObj C dx)
  ns : h.Ns1 dx mA
  ne : dx ≠ x

theorem lookIn_ns {h : Heap} {dx : Addr} {mA : Str → Option Value} (n : h.Ns1 dx mA) : ∃ od, h.get? dx = some od ∧ ∀ name, PySem.W.lookIn name od = some (mA name) := by
  obtain ⟨o, es, ep, ho, hd, hk, _, hm⟩ := n
  refine ⟨o, ho, fun name => ?_⟩
  have e := hm name
  unfold nsFind findBy at e
  rw [← Array.find?_toList] at e
  unfold PySem.W.lookIn
  rw [hd]
  dsimp only
  split
  · rename_i y q
    rw [q] at e
    exact congrArg some e
  · rename_i q
    rw [q] at e
    have a : es.toList.any (·.refKey) = false := by
      rw [List.any_eq_false]
      intro y hy
      obtain ⟨z, t, hkey⟩ := hk y (Array.mem_toList_iff.mp hy)
      simp [DictEntry.refKey, hkey]
    have a' : ¬ es.toList.any (·.refKey) = true := by rw [a]; exact Bool.false_ne_true
    rw [if_neg a']
    exact congrArg some e

theorem ObjM.look {h : Heap} {x dx C : Addr} {mA : Str → Option Value} (I : ObjM h x dx C mA) : ∃ od, PySem.W.InstAt h x (PySem.W.instObj C dx) C (some od) ∧ ∀ name, PySem.W.lookIn name od = some (mA name) :=
  let ⟨od, ho, hl⟩ := lookIn_ns I.ns
  ⟨od, ⟨I.obj, rfl, rfl, ho⟩, hl⟩

section
variable {prog : Program} {w : World} {A : Around} {E : Value → Shared → Prop} {s : Shared} {K : PySem.W.Frag} {x dx C f : Addr} {mA : Str → Option Value} {name : Str} {v : Value}

theorem get_map {expr : Bool} {Q : Value → Shared → Prop} (X : K.In s.heap) (I : ObjM s.heap x dx C mA) (hg : PySem.W.plainGet K C name = true) (hh : PySem.W.hasDictIn K C = true)
    (ha : PySem.W.findIn K (.ref C) name = some none) (hv : mA name = some v) (hv' : PySem.W.handedIn v = true) (h : Q v { s with toks := s.toks + 1 }) :
    wpAny (model prog w) A (getAttr (.ref x) name expr) Q E s := by
  obtain ⟨od, J, hl⟩ := I.look
  exact PySem.W.get_value X J (PySem.W.plainGet_of hg).1 (PySem.W.findObj_own hh ha rfl (by rw [hl, hv])) hv' h

theorem get_const {expr : Bool} {a : Value} {Q : Value → Shared → Prop} (X : K.In s.heap) (I : ObjM s.heap x dx C mA) (hg : PySem.W.plainGet K C name = true) (hh : PySem.W.hasDictIn K C = true)
    (ha : PySem.W.findIn K (.ref C) name = some (some a)) (hn : PySem.W.specialIn K a "__get__" = some none) (hc : PySem.W.copiedNames.contains name = false) (hv : mA name = none) (hv' : PySem.W.handedIn a = true)
    (h : Q a { s with toks := s.toks + 1 }) : wpAny (model prog w) A (getAttr (.ref x) name expr) Q E s := by
  obtain ⟨od, J, hl⟩ := I.look
  exact PySem.W.get_value X J (PySem.W.plainGet_of hg).1 (PySem.W.findObj_cls hh ha hn hv' hc (by rw [hl, hv])) hv' h

theorem get_meth {pl : Sem Bool} {Q : Value × List Value → Shared → Prop} (X : K.In s.heap) (I : ObjM s.heap x dx C mA) (hg : PySem.W.plainGet K C name = true)
    (hf : PySem.W.findIn K (.ref C) name = some (some (.ref f))) (ht : PySem.W.isFn K (.ref f) = true) (hv : mA name = none) (h : Q (.ref f, [.ref x]) s) :
    wpAny (model prog w) A (getMethod (.ref x) name pl) Q E s := by
  obtain ⟨od, J, hl⟩ := I.look
  exact PySem.W.method_fn X J (PySem.W.plainGet_of hg).1 (PySem.W.plainGet_of hg).2 hf (beq_iff_eq.mp ht) (by show (PySem.W.lookIn name od).map (·.isSome) = some false; rw [hl, hv]; rfl) h

theorem set_map {ns : List Str} {Q : Unit → Shared → Prop} (X : K.In s.heap) (I : ObjM s.heap x dx C mA)
    (hs : PySem.W.findIn K (.ref C) "__setattr__" = some (some (.builtin "object.__setattr__"))) (hp : PySem.W.plainOver K C = true) (ht : PySem.W.takerIn K C name = some none) (hh : PySem.W.hasDictIn K C = true)
    (hw : PySem.Within mA ns) (hsz : ns.length ≤ sizeLine)
    (h : ∀ h', ObjM h' x dx C (fun y => if y = name then some v else mA y) → Heap.SameBut dx s.heap h' → Q () { s with heap := h', toks := s.toks + 2 }) :
    wpAny (model prog w) A (setAttr (.ref x) name v) Q E s := by
  obtain ⟨od, J, hl⟩ := I.look
  refine PySem.W.set_plain X J hs (PySem.W.osa_open (s := { s with toks := s.toks + 1 }) (r := none) X J hp ht fun b => ?_)
  obtain ⟨cd, hc, hd'⟩ := PySem.W.any_some hh
  have hx : s.heap.get? x = some ⟨.ref C, some dx, .plain, #[]⟩ := I.obj
  refine wpAny_bind (wpAny_pure (wpAny_bind (wpAny_bind (wpAny_loadPart hx (wpAny_bind (PySem.W.Looks.here (s := { s with toks := s.toks + 1 }) (PySem.W.looks_clsIn X hc) ?_))))))
  rw [hd']
  refine wpAny_pure (a := some dx) (wpAny_bind (wpAny_pure (wpAny_bind ?_)))
  refine wpAny_nsSet1 (s := { s with toks := s.toks + 1 }) I.ns fun h' hn2 hs2 => ?_
  obtain ⟨oD, esD, epD, hoD, hdD, hcD⟩ := hn2.count (PySem.Within.cons name v hw)
  refine wpAny_bind (wpAny_lookBehind hoD (by rw [hdD]; exact pastItsLine_dict (Nat.le_trans hcD (by rw [List.length_cons]; omega))) ?_)
  exact wpAny_pure (h _ ⟨(hs2.2 _ (Ne.symm I.ne)).trans I.obj, hn2, I.ne⟩ hs2)

/-- C(..): the dict at the heap's end, the instance behind it; then its __init__ -/
theorem make_map {R : Result → Shared → Prop} {vs : List Value} {kw : List (Str × Value)} (X : K.In s.heap) (hm : PySem.W.makesIn K C = true)
    (hi : PySem.W.findIn K (.ref C) "__init__" = some (some (.ref f))) (hf : PySem.W.typeIn K (.ref f) = some (.type "function"))
    (h : codeAny (model prog w) (A.under (.builtin "type.__call__" ⟨.ref C :: vs, kw⟩)) (.call (.ref f) ⟨.ref (s.heap.objs.size + 1) :: vs, kw⟩) (PySem.W.InitBack (s.heap.objs.size + 1) R)
      { s with heap := (s.heap.push PySem.W.emptyDict).push (PySem.W.instObj C s.heap.objs.size) }) :
    codeAny (model prog w) A (.call (.ref C) ⟨vs, kw⟩) R s := by
  obtain ⟨hh, g, d, t, os⟩ := s
  exact PySem.W.make_core (PySem.W.makes_of X hm) (PySem.W.looks_findIn X hi) (fun self => PySem.W.bind_fn X self hf) (.inl rfl) h
/-- C() where there is no __init__ but object's -/
theorem make_map0 {R : Result → Shared → Prop} (X : K.In s.heap) (hm : PySem.W.makesIn K C = true)
    (hi : PySem.W.findIn K (.ref C) "__init__" = some (some (.builtin "object.__init__")))
    (hb : ∀ self, PySem.W.Looks (model prog w) s.heap (bindSpecial (.builtin "object.__init__") self) (.builtin "object.__init__", [self]))
    (h : codeAny (model prog w) (A.under (.builtin "type.__call__" ⟨[.ref C], []⟩)) (.call (.builtin "object.__init__") ⟨[.ref (s.heap.objs.size + 1)], []⟩) (PySem.W.InitBack (s.heap.objs.size + 1) R)
      { s with heap := (s.heap.push PySem.W.emptyDict).push (PySem.W.instObj C s.heap.objs.size) }) :
    codeAny (model prog w) A (.call (.ref C) ⟨[], []⟩) R s := by
  obtain ⟨hh, g, d, t, os⟩ := s
  exact PySem.W.make_core (PySem.W.makes_of X hm) (PySem.W.looks_findIn X hi) hb (.inr ⟨rfl, rfl⟩) h
end

/-! ### the attributes as a list of pairs -/
def putF (f : Str) (v : V) : List (Str × V) → List (Str × V)
  | [] => [(f, v)]
  | (g, x) :: r => if g = f then (g, v) :: r else (g, x) :: putF f v r
theorem lookup_putF (f g : Str) (v : V) : ∀ fs : List (Str × V), (putF f v fs).lookup g = if g = f then some v else fs.lookup g
  | [] => by
    show List.lookup g [(f, v)] = _
    by_cases h : g = f
    · have hb : (g == f) = true := beq_iff_eq.mpr h
      simp only [List.lookup, hb, if_pos h]
    · have hb : (g == f) = false := beq_eq_false_iff_ne.mpr h
      simp only [List.lookup, hb, if_neg h]
  | (k, x) :: r => by
    have ih := lookup_putF f g v r
    rw [show putF f v ((k, x) :: r) = (if k = f then (k, v) :: r else (k, x) :: putF f v r) from rfl]
    by_cases hk : k = f
    · rw [if_pos hk]
      by_cases h : g = k
      · have hb : (g == k) = true := beq_iff_eq.mpr h
        simp only [List.lookup, hb, if_pos (h.trans hk)]
      · have hb : (g == k) = false := beq_eq_false_iff_ne.mpr h
        simp only [List.lookup, hb, if_neg (fun e : g = f => h (e.trans hk.symm))]
    · rw [if_neg hk]
      by_cases h : g = k
      · have hb : (g == k) = true := beq_iff_eq.mpr h
        simp only [List.lookup, hb, if_neg (fun e : g = f => hk (h.symm.trans e))]
      · have hb : (g == k) = false := beq_eq_false_iff_ne.mpr h
        simp only [List.lookup, hb]
        exact ih
theorem keys_putF (f : Str) (v : V) : ∀ fs : List (Str × V), f ∈ (putF f v fs).map (·.1) ∧ ∀ g, g ∈ fs.map (·.1) → g ∈ (putF f v fs).map (·.1)
  | [] => ⟨by simp [putF], fun g h => by simp at h⟩
  | (k, x) :: r => by
    obtain ⟨i1, i2⟩ := keys_putF f v r
    rw [show putF f v ((k, x) :: r) = (if k = f then (k, v) :: r else (k, x) :: putF f v r) from rfl]
    by_cases hk : k = f
    · rw [if_pos hk]
      subst hk
      exact ⟨by simp, fun g h => by simpa using h⟩
    · rw [if_neg hk]
      refine ⟨?_, fun g h => ?_⟩
      · rw [List.map_cons]
        exact List.mem_cons_of_mem _ i1
      · rw [List.map_cons] at h ⊢
        rcases List.mem_cons.mp h with e | e
        · exact List.mem_cons.mpr (.inl e)
        · exact List.mem_cons_of_mem _ (i2 g e)
theorem length_putF (f : Str) (v : V) : ∀ fs : List (Str × V), (putF f v fs).length ≤ fs.length + 1
  | [] => by simp [putF]
  | (k, x) :: r => by
    have ih := length_putF f v r
    rw [show putF f v ((k, x) :: r) = (if k = f then (k, v) :: r else (k, x) :: putF f v r) from rfl]
    by_cases hk : k = f
    · rw [if_pos hk, List.length_cons, List.length_cons]; omega
    · rw [if_neg hk, List.length_cons, List.length_cons]; omega

theorem RelO.some_of {v : V} {o : Option Value} (r : RelO (some v) o) : ∃ u, o = some u ∧ RelV v u := by
  cases o with
  | none => exact (show False from r).elim
  | some u => exact ⟨u, rfl, r⟩
theorem RelO.none_of {o : Option Value} (r : RelO none o) : o = none := by
  cases o with
  | none => rfl
  | some u => exact (show False from r).elim
theorem handed_of {v : V} {u : Value} (r : RelV v u) : PySem.W.handedIn u = true := by
  cases v with
  | non => cases (show u = Value.none from r); rfl
  | bl b => cases (show u = Value.bool b from r); rfl
  | int i => obtain ⟨t, e⟩ := (show ∃ t, u = Value.int i t from r); cases e; rfl
  | str x => obtain ⟨t, e⟩ := (show ∃ t, u = Value.str x t from r); cases e; rfl
  | byt b => obtain ⟨t, e⟩ := (show ∃ t, u = Value.bytes b t from r); cases e; rfl
  | flt b => obtain ⟨t, e⟩ := (show ∃ t, u = Value.float b t from r); cases e; rfl
  | ref a => cases (show u = Value.ref a from r); rfl
  | ty n => cases (show u = Value.type n from r); rfl

section
variable {P : Program} {w : World} {H H' : Hp} {h h' : Heap} {a C dx : Addr} {fs fs' : List (Str × V)}
theorem ins_get (hok : HOk P w H h) (e : H a = some (.ins C dx fs)) : ∃ mA, ObjM h a dx C mA ∧ (∀ f, RelO (fs.lookup f) (mA f)) ∧ PySem.Within mA (fs.map (·.1)) ∧ fs.length ≤ 1000 ∧ H dx = some (.own a) := by
  obtain ⟨d, z, ne, ob, mA, n, r, q⟩ := (show ObjOk P w H h a (.ins C dx fs) from hok a _ e)
  exact ⟨mA, ⟨ob, n, ne⟩, r, q, z, d⟩
end

/-! ### what of the text a class must have -/
structure Cls (K : PySem.W.Frag) (C : Addr) : Prop where
  pg : PySem.W.plainGet K C Str.empty = true
  hd : PySem.W.hasDictIn K C = true
  po : PySem.W.plainOver K C = true
  sa : PySem.W.findIn K (.ref C) "__setattr__" = some (some (.builtin "object.__setattr__"))
theorem Cls.get {K : PySem.W.Frag} {C : Addr} (c : Cls K C) (f : Str) : PySem.W.plainGet K C f = true := c.pg
/-- no class of it has the name -/
def NoAttr (K : PySem.W.Frag) (C : Addr) (f : Str) : Prop := PySem.W.findIn K (.ref C) f = some none
theorem NoAttr.taker {K : PySem.W.Frag} {C : Addr} {f : Str} (n : NoAttr K C f) : PySem.W.takerIn K C f = some none := by
  unfold PySem.W.takerIn
  rw [show PySem.W.findIn K (.ref C) f = some none from n]
  rfl
/-- a constant of the class -/
structure Con (K : PySem.W.Frag) (C : Addr) (f : Str) (v : V) (u : Value) : Prop where
  at_ : PySem.W.findIn K (.ref C) f = some (some u)
  rel : RelV v u
  get : PySem.W.specialIn K u "__get__" = some none
  cp : PySem.W.copiedNames.contains f = false
/-- a method: a plain def of the class or of one above it -/
structure Meth (K : PySem.W.Frag) (C : Addr) (m : Str) (f : Addr) : Prop where
  at_ : PySem.W.findIn K (.ref C) m = some (some (.ref f))
  fn : PySem.W.isFn K (.ref f) = true
  kp : PySem.W.keepIn K (.ref f) = true

section
variable {X : Cx} {pins : List (Addr × Obj)} {σ : St} {H : Hp} {s : Shared} {a C dx : Addr} {fs : List (Str × V)} {f : Str} {v : V} {A : Around} {E : Value → Shared → Prop}

theorem getattr_ok {b : Bool} {Q : Value → Shared → Prop} (I : Inv X pins σ H s) (e : H a = some (.ins C dx fs)) (c : Cls X.K C) (n : NoAttr X.K C f) (l : fs.lookup f = some v)
    (h : ∀ u s', Inv X pins σ H s' → RelV v u → Q u s') : wpAny (model X.prog X.w) A (getAttr (.ref a) f b) Q E s := by
  obtain ⟨mA, O, r, _, _, _⟩ := ins_get I.hok e
  obtain ⟨u, hu, ru⟩ := RelO.some_of (v := v) (o := mA f) (by rw [← l]; exact r f)
  exact get_map I.kIn O (c.get f) c.hd n hu (handed_of ru) (h u _ (I.tok _) ru)

theorem getcon_ok {b : Bool} {u : Value} {Q : Value → Shared → Prop} (I : Inv X pins σ H s) (e : H a = some (.ins C dx fs)) (c : Cls X.K C) (k : Con X.K C f v u) (l : fs.lookup f = none)
    (h : ∀ s', Inv X pins σ H s' → Q u s') : wpAny (model X.prog X.w) A (getAttr (.ref a) f b) Q E s := by
  obtain ⟨mA, O, r, _, _, _⟩ := ins_get I.hok e
  have hn : mA f = none := RelO.none_of (by rw [← l]; exact r f)
  exact get_const I.kIn O (c.get f) c.hd k.at_ k.get k.cp hn (handed_of k.rel) (h _ (I.tok _))

theorem getmeth_ok {m : Str} {g : Addr} {pl : Sem Bool} {Q : Value × List Value → Shared → Prop} (I : Inv X pins σ H s) (e : H a = some (.ins C dx fs)) (c : Cls X.K C) (k : Meth X.K C m g) (l : fs.lookup m = none)
    (h : Q (.ref g, [.ref a]) s) : wpAny (model X.prog X.w) A (getMethod (.ref a) m pl) Q E s := by
  obtain ⟨mA, O, r, _, _, _⟩ := ins_get I.hok e
  have hn : mA m = none := RelO.none_of (by rw [← l]; exact r m)
  exact get_meth I.kIn O (c.get m) k.at_ k.fn hn h

theorem setattr_ok {y : V} {u : Value} {Q : Unit → Shared → Prop} (I : Inv X pins σ H s) (e : H a = some (.ins C dx fs)) (c : Cls X.K C) (n : NoAttr X.K C f) (hl : fs.length < 1000) (ry : RelV y u)
    (h : ∀ s', Inv X pins σ (upd H a (.ins C dx (putF f y fs))) s' → Q () s') : wpAny (model X.prog X.w) A (setAttr (.ref a) f u) Q E s := by
  obtain ⟨mA, O, r, wi, _, ho⟩ := ins_get I.hok e
  have hz : (fs.map (·.1)).length ≤ sizeLine := by rw [List.length_map, sizeLine_eq]; omega
  refine set_map I.kIn O c.sa c.po n.taker c.hd wi hz fun h' O' sb => h _ ?_
  have hd : ∃ o, h'.get? dx = some o := let ⟨o, _, _, e', _⟩ := O'.ns; ⟨o, e'⟩
  refine I.write (x := a) (e := dx) (by rw [e]; exact True.intro) (.inr ho) (fun b q hb z => (sb.2 b hb).trans z) hd ?_
  refine ⟨by rw [upd_ne O.ne]; exact ho, ?_, O.ne, O'.obj, _, O'.ns, fun g => ?_, fun g hg => ?_⟩
  · have := length_putF f y fs; omega
  · show RelO ((putF f y fs).lookup g) (if g = f then some u else mA g)
    rw [lookup_putF]
    by_cases q : g = f
    · rw [if_pos q, if_pos q]; exact ry
    · rw [if_neg q, if_neg q]; exact r g
  · by_cases q : g = f
    · rw [q]; exact (keys_putF f y fs).1
    · refine (keys_putF f y fs).2 g (wi g fun z => hg ?_)
      show (if g = f then some u else mA g) = none
      rw [if_neg q]; exact z

/-- a new instance, tracked, without attributes -/
theorem Inv.made (I : Inv X pins σ H s) : Inv X pins σ (upd (upd H s.heap.objs.size (.own (s.heap.objs.size + 1))) (s.heap.objs.size + 1) (.ins C s.heap.objs.size []))
    { s with heap := (s.heap.push PySem.W.emptyDict).push (PySem.W.instObj C s.heap.objs.size) } := by
  have e1 : (s.heap.push PySem.W.emptyDict).get? s.heap.objs.size = some PySem.W.emptyDict := Heap.get?_push_size s.heap rfl
  have e2 : ((s.heap.push PySem.W.emptyDict).push (PySem.W.instObj C s.heap.objs.size)).get? (s.heap.objs.size + 1) = some (PySem.W.instObj C s.heap.objs.size) := by
    have := Heap.get?_push_size (s.heap.push PySem.W.emptyDict) (o := PySem.W.instObj C s.heap.objs.size) rfl
    rwa [Heap.size_push] at this
  have e3 : (s.heap.push PySem.W.emptyDict).Ns s.heap.objs.size (fun _ => none) := ⟨PySem.W.emptyDict, #[], _, e1, rfl, (fun e he => absurd he (by simp)), fun _ => rfl⟩
  have I1 := I.laid (a := s.heap.objs.size) (o := .own (s.heap.objs.size + 1)) (h' := s.heap.push PySem.W.emptyDict) (t' := s.toks) (fun b u q => Heap.get?_push_of_some _ q) (Nat.le_refl _) ⟨_, e1⟩
  refine I1.laid (a := s.heap.objs.size + 1) (o := .ins C s.heap.objs.size []) (t' := s.toks) (fun b u q => Heap.get?_push_of_some _ q) (Nat.le_of_eq (Heap.size_push _ _)) ?_
  have ne : s.heap.objs.size ≠ s.heap.objs.size + 1 := Nat.ne_of_lt (Nat.lt_succ_self _)
  refine ⟨by rw [upd_ne ne, upd_same], Nat.zero_le _, ne, e2, fun _ => none, (Heap.Ns1.of_empty e3).at fun o q => Heap.get?_push_of_some _ q, fun _ => True.intro, fun y hy => absurd rfl hy⟩

/-- e.f where nothing but the object is asked: through attributeBase (super) and the last hold -/
theorem attr_of {prog : Program} {w : World} {env : Env} {e : Expr} {f : Str} {pos : Pos} {s : Shared} {Q : Value → Shared → Prop} (hb : attributeBase e f env (eval e env) = eval e env)
    (h : wpAny (model prog w) A (eval e env) (fun o s₁ => wpAny (model prog w) A (getAttr o f true) Q E s₁) E s) : wpAny (model prog w) A (eval (.Attribute e f pos) env) Q E s :=
  Attribute_any_ h (by rw [arm_eval_Attribute, hb])
end

/-! ### readings and rules -/
/-- e.f, an attribute of the instance -/
def tFld (K : PySem.W.Frag) (ta : TE) (f : Str) : TE := fun σ H Q => ta σ H fun x H1 => ∃ a C dx fs v, x = .ref a ∧ H1 a = some (.ins C dx fs) ∧ Cls K C ∧ NoAttr K C f ∧ fs.lookup f = some v ∧ Q v H1
/-- e.f, a constant of the class -/
def tCon (K : PySem.W.Frag) (ta : TE) (f : Str) : TE := fun σ H Q => ta σ H fun x H1 => ∃ a C dx fs v u, x = .ref a ∧ H1 a = some (.ins C dx fs) ∧ Cls K C ∧ Con K C f v u ∧ fs.lookup f = none ∧ Q v H1
/-- e.f = value -/
def sFld (K : PySem.W.Frag) (ta tv : TE) (f : Str) : TS := fun D σ H => tv σ H fun y H1 => ta σ H1 fun x H2 => ∃ a C dx fs, x = .ref a ∧ H2 a = some (.ins C dx fs) ∧ Cls K C ∧ NoAttr K C f ∧ fs.length < 1000 ∧
  D.nx σ (upd H2 a (.ins C dx (putF f y fs)))
/-- an augmented operator on two values -/
def InOp (X : Cx) (op : Operator) (rd : V → V → Hp → VK → Prop) : Prop :=
  ∀ (pins : List (Addr × Obj)) (s : Shared) (σ : St) (H : Hp) (x y : V) (u v : Value) (Q : VK), Inv X pins σ H s → RelV x u → RelV y v → rd x y H Q → wpAny (model X.prog X.w) X.A (inplaceOp op u v) (EP X pins σ Q) X.xe s
/-- e.f op= value -/
def sFldAug (K : PySem.W.Frag) (ta tv : TE) (rd : V → V → Hp → VK → Prop) (f : Str) : TS := fun D σ H => ta σ H fun x H1 => ∃ a C dx fs v, x = .ref a ∧ H1 a = some (.ins C dx fs) ∧ Cls K C ∧ NoAttr K C f ∧ fs.lookup f = some v ∧
  tv σ H1 fun y H2 => rd v y H2 fun z H3 => ∃ dx' fs', H3 a = some (.ins C dx' fs') ∧ fs'.length < 1000 ∧ D.nx σ (upd H3 a (.ins C dx' (putF f z fs')))

section
variable {X : Cx} {o e value : Expr} {f : Str} {pos pos' tpos : Pos} {ta tv : TE}
theorem pe_fld (he : PE X e ta) (hb : attributeBase e f X.env (eval e X.env) = eval e X.env) : PE X (.Attribute e f pos) (tFld X.K ta f) := by
  intro pins s σ H Q I h
  refine attr_of hb (thn (he pins s σ H _ I h) fun u s1 ⟨x, H1, I1, rx, a, C, dx, fs, v, ex, ea, c, n, l, q⟩ => ?_)
  subst ex
  obtain rfl : u = Value.ref a := rx
  exact getattr_ok I1 ea c n l fun u' s2 I2 ru => ⟨v, H1, I2, ru, q⟩
theorem pe_con (he : PE X e ta) (hb : attributeBase e f X.env (eval e X.env) = eval e X.env) : PE X (.Attribute e f pos) (tCon X.K ta f) := by
  intro pins s σ H Q I h
  refine attr_of hb (thn (he pins s σ H _ I h) fun u s1 ⟨x, H1, I1, rx, a, C, dx, fs, v, u0, ex, ea, c, k, l, q⟩ => ?_)
  subst ex
  obtain rfl : u = Value.ref a := rx
  exact getcon_ok I1 ea c k l fun s2 I2 => ⟨v, H1, I2, k.rel, q⟩
theorem ps_fld (ha : PE X o ta) (hv : PE X value tv) (hs : swapsWith value (some (.Attribute o f pos')) pos.line X.env = pure false) : PS X (.Assign [.Attribute o f pos'] value pos) (sFld X.K ta tv f) := by
  intro pins s σ H D I h
  refine plainObj_wpAny_Assign_Attribute (thn (hv pins s σ H _ I h) fun u s1 ⟨y, H1, I1, ry, q⟩ => thn (ha pins s1 σ H1 _ I1 q) fun ov s2 ⟨x, H2, I2, rx, a, C, dx, fs, ex, ea, c, n, l, q2⟩ => ?_) hs
  subst ex
  obtain rfl : ov = Value.ref a := rx
  exact setattr_ok I2 ea c n l ry fun s3 I3 => ⟨σ, _, I3, q2⟩
theorem ps_fldaug {op : Operator} {rd : V → V → Hp → VK → Prop} (ha : PE X o ta) (hv : PE X value tv) (hop : InOp X op rd) : PS X (.AugAssign (.Attribute o f tpos) op value pos) (sFldAug X.K ta tv rd f) := by
  intro pins s σ H D I h
  refine wpAny_AugAssign_AttributeAny (thn (ha pins s σ H _ I h) fun ov s1 ⟨x, H1, I1, rx, a, C, dx, fs, v, ex, ea, c, n, l, q⟩ => ?_)
  subst ex
  obtain rfl : ov = Value.ref a := rx
  refine getattr_ok I1 ea c n l fun u s2 I2 ru => thn (hv pins s2 σ H1 _ I2 q) fun w3 s3 ⟨y, H2, I3, ry, q3⟩ => thn (hop pins s3 σ H2 v y u w3 _ I3 ru ry q3) fun w4 s4 ⟨z, H3, I4, rz, dx', fs', ea', l', q4⟩ => ?_
  exact setattr_ok I4 ea' c n l' rz fun s5 I5 => ⟨σ, _, I5, q4⟩
def rAdd : V → V → Hp → VK → Prop := fun x y H Q => ∃ i j, x = .int i ∧ y = .int j ∧ Q (.int (i + j)) H
def rSub : V → V → Hp → VK → Prop := fun x y H Q => ∃ i j, x = .int i ∧ y = .int j ∧ Q (.int (i - j)) H
theorem in_add : InOp X .Add rAdd := by
  rintro pins s σ H x y u v Q I rx ry ⟨i, j, rfl, rfl, q⟩
  obtain ⟨t, rfl⟩ := (show ∃ t, u = Value.int i t from rx)
  obtain ⟨t', rfl⟩ := (show ∃ t', v = Value.int j t' from ry)
  exact PyProof.Rows.iadd_int ⟨.int (i + j), H, I.tok _, ⟨_, rfl⟩, q⟩
theorem in_sub : InOp X .Sub rSub := by
  rintro pins s σ H x y u v Q I rx ry ⟨i, j, rfl, rfl, q⟩
  obtain ⟨t, rfl⟩ := (show ∃ t, u = Value.int i t from rx)
  obtain ⟨t', rfl⟩ := (show ∃ t', v = Value.int j t' from ry)
  exact PyProof.Rows.isub_int ⟨.int (i - j), H, I.tok _, ⟨_, rfl⟩, q⟩

/-- what is between an instance and its method: the tree of a method call -/
theorem methcall_of {pl : Sem Bool} {m : Str} {apos : Pos} {args : List Expr} {pins : List (Addr × Obj)} {s : Shared} {σ : St} {H : Hp} {Q : Value → Shared → Prop} {te : TE} (he : PE X e te) (I : Inv X pins σ H s)
    (h : te σ H fun x H1 => ∃ a C dx fs g, x = .ref a ∧ H1 a = some (.ins C dx fs) ∧ Cls X.K C ∧ Meth X.K C m g ∧ fs.lookup m = none ∧
      ∀ s1, Inv X pins σ H1 s1 → wpAny (model X.prog X.w) X.A (callWith pos (.ref g) [.ref a] (backTo pos (starEach args X.env)) (backToKw pos (keywordEach [] X.env))) Q X.xe s1)
    (ht : eval (.Call (.Attribute e m apos) args [] pos) X.env = (do
      let ov ← eval e X.env
      standAt apos.atName
      let (f, first) ← holding [ov] (getMethod ov m pl)
      callWith pos f first (backTo pos (starEach args X.env)) (backToKw pos (keywordEach [] X.env)))) :
    wpAny (model X.prog X.w) X.A (eval (.Call (.Attribute e m apos) args [] pos) X.env) Q X.xe s := by
  refine PySem.W.methodCall_KW (pl := pl) (thn (he pins s σ H _ I h) fun u s1 ⟨x, H1, I1, rx, a, C, dx, fs, g, ex, ea, c, k, l, q⟩ => ?_) ht
  subst ex
  obtain rfl : u = Value.ref a := rx
  exact getmeth_ok I1 ea c k l (q s1 I1)
end

/-! ### isinstance -/
section
variable {X : Cx} {pins : List (Addr × Obj)} {σ : St} {H : Hp} {s : Shared} {A : Around} {E : Value → Shared → Prop} {Q : Value → Shared → Prop} {c : Value} {b : Bool}
/-- the type of a value, as the fragment's deciders take it; for an instance its class -/
inductive TyOf (K : PySem.W.Frag) (H : Hp) : V → Value → Prop where
  | non : TyOf K H .non (.type "NoneType")
  | bl (x : Bool) : TyOf K H (.bl x) (.type "bool")
  | int (i : Int) : TyOf K H (.int i) (.type "int")
  | str (x : Str) : TyOf K H (.str x) (.type "str")
  | flt (x : UInt64) : TyOf K H (.flt x) (.type "float")
  | lst {a : Addr} {xs : List V} (e : H a = some (.lst xs)) : TyOf K H (.ref a) (.type "list")
  | frz {a : Addr} {o : Obj} {xs : List V} (e : H a = some (.frz o (.lst xs))) : TyOf K H (.ref a) (.type "list")
  | tup {a : Addr} {xs : List V} (e : H a = some (.tup xs)) : TyOf K H (.ref a) (.type "tuple")
  | dK {a : Addr} {kvs : List (Key × V)} (e : H a = some (.dK kvs)) : TyOf K H (.ref a) (.type "dict")
  | dT {a : Addr} {kvs : List (List Key × V)} (e : H a = some (.dT kvs)) : TyOf K H (.ref a) (.type "dict")
  | ins {a C dx : Addr} {fs : List (Str × V)} (e : H a = some (.ins C dx fs)) (cl : Cls K C) (ha : PySem.W.findIn K (.ref C) "__class__" = some (some (.builtin "object.__class__")))
      (hn : PySem.W.specialIn K (.builtin "object.__class__") "__get__" = some (some (.builtin "getset_descriptor.__get__"))) (htk : PySem.W.takesIn K (.builtin "object.__class__") = some true)
      (hm : PySem.W.mroIn K C (.type "object") = some true) : TyOf K H (.ref a) (.ref C)
/-- isinstance(x, c) for one class c, a built-in or an own one: kitOne's answer -/
theorem isinst_ok {x : V} {u t : Value} (I : Inv X pins σ H s) (rx : RelV x u) (ty : TyOf X.K H x t) (e : PySem.W.kitOne X.K t c = some b) (h : ∀ tk, Q (.bool b) { s with toks := tk }) :
    wpAny (model X.prog X.w) A (call (.builtin "isinstance") [u, c]) Q E s := by
  cases ty with
  | non => cases (show u = Value.none from rx); exact PySem.W.kia_one PySem.W.kitx_none I.kIn True.intro e (fun z => nomatch z) h
  | bl y => cases (show u = Value.bool y from rx); exact PySem.W.kia_one PySem.W.kitx_bool I.kIn True.intro e (fun z => nomatch z) h
  | int i => obtain ⟨t, q⟩ := (show ∃ t, u = Value.int i t from rx); cases q; exact PySem.W.kia_one PySem.W.kitx_int I.kIn True.intro e (fun z => nomatch z) h
  | str y => obtain ⟨t, q⟩ := (show ∃ t, u = Value.str y t from rx); cases q; exact PySem.W.kia_one PySem.W.kitx_str I.kIn True.intro e (fun z => nomatch z) h
  | flt y => obtain ⟨t, q⟩ := (show ∃ t, u = Value.float y t from rx); cases q; exact PySem.W.kia_one PySem.W.kitx_float I.kIn True.intro e (fun z => nomatch z) h
  | @lst a xs ea =>
    cases (show u = Value.ref a from rx)
    obtain ⟨_, _, n, _, h1⟩ := (show ObjOk X.prog X.w H s.heap a (.lst xs) from I.hok a _ ea)
    exact PySem.W.kia_one PySem.W.kitx_list I.kIn ⟨_, h1, rfl⟩ e (fun z => nomatch z) h
  | @frz a ob xs ea =>
    cases (show u = Value.ref a from rx)
    obtain ⟨_, _, _, n, _, h1⟩ := (show ObjOk X.prog X.w H s.heap a (.frz ob (.lst xs)) from I.hok a _ ea)
    exact PySem.W.kia_one PySem.W.kitx_list I.kIn ⟨_, h1, rfl⟩ e (fun z => nomatch z) h
  | @tup a xs ea =>
    cases (show u = Value.ref a from rx)
    obtain ⟨_, _, _, p⟩ := (show ObjOk X.prog X.w H s.heap a (.tup xs) from I.hok a _ ea)
    obtain ⟨o, h1, h2, _⟩ := p
    exact PySem.W.kia_one PySem.W.kitx_tuple I.kIn ⟨o, h1, h2⟩ e (fun z => nomatch z) h
  | @dK a kvs ea =>
    cases (show u = Value.ref a from rx)
    obtain ⟨_, _, vs, _, p⟩ := (show ObjOk X.prog X.w H s.heap a (.dK kvs) from I.hok a _ ea)
    obtain ⟨o, es, ep, h1, h2, _⟩ := p
    exact PySem.W.kia_one PySem.W.kitx_dict I.kIn ⟨o, h1, h2.1⟩ e (fun z => nomatch z) h
  | @dT a kvs ea =>
    cases (show u = Value.ref a from rx)
    obtain ⟨_, _, xs, _, o, es, ep, h1, h2, _⟩ := (show ObjOk X.prog X.w H s.heap a (.dT kvs) from I.hok a _ ea)
    exact PySem.W.kia_one PySem.W.kitx_dict I.kIn ⟨o, h1, h2.1⟩ e (fun z => nomatch z) h
  | @ins a C dx fs ea cl ha hn htk hm =>
    cases (show u = Value.ref a from rx)
    obtain ⟨mA, O, _⟩ := ins_get I.hok ea
    obtain ⟨od, J, _⟩ := O.look
    exact PySem.W.kia_one (PySem.W.kitx_own (cl.get _) cl.hd ha hn htk hm) I.kIn J e (fun z => nomatch z) h
end
end L2

namespace L2
open PySem PySem.Spec PyProof.Rows

/-! ### room -/
structure Room (k : Nat) (A : Around) : Prop where
  hd : A.handled = none
  dp : A.depth + 3 * k + 5 < recursionLimit
  un : A.units + 16 * k + 200 < cLine
theorem Room.mono {j k : Nat} {A : Around} (r : Room k A) (h : j ≤ k) : Room j A := ⟨r.hd, by have := r.dp; omega, by have := r.un; omega⟩
theorem Room.deeper {k : Nat} {A : Around} (r : Room (k + 1) A) (env : Env) : Room k (A.deeper env) :=
  ⟨r.hd, by have := r.dp; show A.depth + 1 + 3 * k + 5 < _; omega, by have := r.un; show A.units + 3 + 16 * k + 200 < _; omega⟩
theorem Room.in1 {k : Nat} {A : Around} (r : Room (k + 1) A) : Room k A.in1 :=
  ⟨r.hd, by have := r.dp; show A.depth + 3 * k + 5 < _; omega, by have := r.un; show A.units + 1 + 16 * k + 200 < _; omega⟩
theorem make_depth {A : Around} {C : Addr} {us : List Value} {kw : List (Str × Value)} : (A.under (.builtin "type.__call__" ⟨.ref C :: us, kw⟩)).depth = A.depth + 1 := by
  first | rfl | simp [Around.under, Code.weight, Code.isCreation, Code.isGuard, Code.isCaller, Code.frames, Code.isFrame, guardIds]
theorem make_units {A : Around} {C : Addr} {us : List Value} {kw : List (Str × Value)} : (A.under (.builtin "type.__call__" ⟨.ref C :: us, kw⟩)).units = A.units + 1 := by
  first | rfl | simp [Around.under, Code.cUnits, Code.frames, Code.isFrame]
theorem Room.make {k : Nat} {A : Around} (r : Room (k + 1) A) (C : Addr) (us : List Value) (kw : List (Str × Value)) : Room k (A.under (.builtin "type.__call__" ⟨.ref C :: us, kw⟩)) :=
  ⟨r.hd, by have := r.dp; rw [make_depth]; omega, by have := r.un; rw [make_units]; omega⟩
theorem Room.depth {k : Nat} {A : Around} (r : Room k A) : A.depth < recursionLimit := by have := r.dp; omega
theorem Room.units {k : Nat} {A : Around} (r : Room k A) : A.units + 64 < cLine := by have := r.un; omega
theorem Room.units0 {k : Nat} {A : Around} (r : Room k A) : A.units < cLine := by have := r.un; omega

/-! ### argument lists and displays -/
def tNil : TA := fun _ H Q => Q [] H
def tCons (ta : TE) (tr : TA) : TA := fun σ H Q => ta σ H fun x H1 => tr σ H1 fun xs H2 => Q (x :: xs) H2
section
variable {X : Cx} {e : Expr} {es : List Expr} {te : TE} {t : TA} {pos : Pos}
theorem pa_nil : PA X [] tNil := fun _ _ _ _ H Q I h => Calls.spliced_nil ⟨[], H, I, .nil, h⟩
theorem pa_cons (ha : PE X e te) (hr : PA X es t) (hs : starEach (e :: es) X.env = (false, eval e X.env) :: starEach es X.env := by rfl) : PA X (e :: es) (tCons te t) := by
  intro pos pins s σ H Q I h
  rw [hs]
  show wpAny _ _ (spliced ((false, eval e X.env) :: backTo pos (starEach es X.env))) _ _ s
  refine Calls.spliced_cons (thn (ha pins s σ H _ I h) fun u s1 ⟨x, H1, I1, r1, q1⟩ => ?_)
  exact thn (hr pos pins s1 σ H1 _ I1 q1) fun us s2 ⟨xs, H2, I2, r2, q2⟩ => ⟨x :: xs, H2, I2, .cons r1 r2, q2⟩

/-- a tuple, a list of written items -/
def tTup (t : TA) : TE := fun σ H Q => t σ H fun xs H1 => xs.length ≤ sizeLine ∧ ∀ p, H1 p = none → Q (.ref p) (upd H1 p (.tup xs))
def tLst (t : TA) : TE := fun σ H Q => t σ H fun xs H1 => xs.length ≤ sizeLine ∧ ∀ p, H1 p = none → Q (.ref p) (upd H1 p (.lst xs))
theorem pe_tup {x1} (h : PA X es t) : PE X (.Tuple es x1 pos) (tTup t) := by
  intro pins s σ H Q I hq
  refine wpAny_Tuple_spliced (thn (h pos pins s σ H _ I hq) fun us s1 ⟨xs, H1, I1, r, z, q⟩ => ⟨by rw [← r.length]; exact z, ?_⟩)
  have hf : H1 s1.heap.objs.size = none := I1.hok.fresh (Nat.le_refl _)
  refine ⟨.ref s1.heap.objs.size, upd H1 s1.heap.objs.size (.tup xs), I1.laid (t' := s1.toks) (fun b u e => Heap.get?_push_of_some _ e) (Nat.le_refl _) ?_, rfl, q _ hf⟩
  exact ⟨z, us, r, ⟨_, Heap.get?_push_size _ rfl, rfl, _, rfl⟩⟩
theorem pe_lst (h : PA X es t) : PE X (.List es pos) (tLst t) := by
  intro pins s σ H Q I hq
  refine wpAny_List_spliced (thn (h pos pins s σ H _ I hq) fun us s1 ⟨xs, H1, I1, r, z, q⟩ => ⟨by rw [← r.length]; exact z, ?_⟩)
  have hf : H1 s1.heap.objs.size = none := I1.hok.fresh (Nat.le_refl _)
  refine ⟨.ref s1.heap.objs.size, upd H1 s1.heap.objs.size (.lst xs), I1.laid (t' := s1.toks) (fun b u e => Heap.get?_push_of_some _ e) (Nat.le_refl _) ?_, rfl, q _ hf⟩
  exact ⟨z, us, 0, r, Heap.get?_push_size _ rfl⟩
end

/-! ### what a def promises -/
/-- a def's promise: the bound arguments in the parameters' order, the heap, the wanted end, the wanted exception -/
abbrev Sp := List V → Hp → VK → XK → Prop
/-- how an exception lies behind a call (file 08 gives it): the callers' frames, abstract heap and state ahead of the call, the wish, the exception, the state -/
abbrev CXT := List Env → Hp → Shared → XK → Value → Shared → Prop

/-- the state at a call -/
structure Env0 (P : Program) (w : World) (K : PySem.W.Frag) (mg : Str → Option Value) (base : Heap) (A : Around) (outer : List Env) (s : Shared) (H : Hp) : Prop where
  frames : A.frames = some outer
  mod : Mod K mg base
  bs : ∀ b o, base.get? b = some o → s.heap.get? b = some o ∧ H b = none
  bsz : base.objs.size ≤ s.heap.objs.size
  funs : s.heap.FunFrames base outer
  frf : ∀ b ∈ frs outer, H b = none
  hok : HOk P w H s.heap
  bare : AllBare s.gens
/-- a call's end -/
def CE (outer : List Env) (P : Program) (w : World) (H : Hp) (s : Shared) (Q : VK) (u : Value) (s' : Shared) : Prop :=
  ∃ v H', s'.os = s.os ∧ AllBare s'.gens ∧ Un (frs outer) [] H H' s.heap s'.heap ∧ HOk P w H' s'.heap ∧ RelV v u ∧ Q v H'
def CR (CX : CXT) (outer : List Env) (P : Program) (w : World) (H : Hp) (s : Shared) (Q : VK) (E : XK) (r : Result) (s' : Shared) : Prop :=
  match r with
  | .ok (.ret u) => CE outer P w H s Q u s'
  | .ok _ => False
  | .error e => CX outer H s E e s'
structure FnOk (P : Program) (w : World) (K : PySem.W.Frag) (mg : Str → Option Value) (base : Heap) (CX : CXT) (k : Nat) (f : Addr) (fd : FuncData) (ps : List Str) (sp : Sp) : Prop where
  len : ∀ vs H Q E, sp vs H Q E → vs.length = ps.length
  run : ∀ (A : Around) (outer : List Env) (s : Shared) (H : Hp) (args : Args) (us : List Value) (vs : List V) (Q : VK) (E : XK), Room k A → Env0 P w K mg base A outer s H → BindsTo s fd args (ps.zip us) → Vals vs us → sp vs H Q E →
    codeAny (model P w) A (.call (.ref f) args) (CR CX outer P w H s Q E) s
theorem FnOk.mono {P : Program} {w : World} {K : PySem.W.Frag} {mg : Str → Option Value} {base : Heap} {CX : CXT} {j k : Nat} {f : Addr} {fd : FuncData} {ps : List Str} {sp : Sp} (F : FnOk P w K mg base CX j f fd ps sp) (h : j ≤ k) :
    FnOk P w K mg base CX k f fd ps sp := ⟨F.len, fun A outer s H args us vs Q E hr => F.run A outer s H args us vs Q E (hr.mono h)⟩
/-- a weaker promise -/
theorem FnOk.imp {P : Program} {w : World} {K : PySem.W.Frag} {mg : Str → Option Value} {base : Heap} {CX : CXT} {k : Nat} {f : Addr} {fd : FuncData} {ps : List Str} {sp sp' : Sp} (F : FnOk P w K mg base CX k f fd ps sp)
    (h : ∀ vs H Q E, sp' vs H Q E → sp vs H Q E) : FnOk P w K mg base CX k f fd ps sp' :=
  ⟨fun vs H Q E q => F.len vs H Q E (h _ _ _ _ q), fun A outer s H args us vs Q E hr he hb hv hs => F.run A outer s H args us vs Q E hr he hb hv (h _ _ _ _ hs)⟩

theorem Env0.make {P : Program} {w : World} {K : PySem.W.Frag} {mg : Str → Option Value} {base : Heap} {A : Around} {outer : List Env} {s : Shared} {H : Hp} (e : Env0 P w K mg base A outer s H) (C : Addr) (us : List Value) (kw : List (Str × Value)) :
    Env0 P w K mg base (A.under (.builtin "type.__call__" ⟨.ref C :: us, kw⟩)) outer s H := ⟨by first | exact e.frames | (simpa [Around.under, Code.envs, Code.isFrame, pushEnvs] using e.frames), e.mod, e.bs, e.bsz, e.funs, e.frf, e.hok, e.bare⟩
theorem Env0.in1 {P : Program} {w : World} {K : PySem.W.Frag} {mg : Str → Option Value} {base : Heap} {A : Around} {outer : List Env} {s : Shared} {H : Hp} (e : Env0 P w K mg base A outer s H) :
    Env0 P w K mg base A.in1 outer s H := ⟨e.frames, e.mod, e.bs, e.bsz, e.funs, e.frf, e.hok, e.bare⟩

section
variable {X : Cx} {pins : List (Addr × Obj)} {σ : St} {H : Hp} {s s' : Shared}
/-- from a body: what a callee wants -/
theorem Inv.env0 (I : Inv X pins σ H s) : Env0 X.prog X.w X.K X.mg X.base X.A X.stack s H :=
  ⟨I.ok.frames, I.ok.mod, I.bs, Nat.le_trans I.ok.bsz I.sz, I.stack, I.stkFree, I.hok, I.bare⟩
/-- behind a call -/
theorem Inv.after {Q : VK} {u : Value} (I : Inv X pins σ H s) (h : CE X.stack X.prog X.w H s Q u s') : EP X pins σ Q u s' := by
  obtain ⟨v, H', os, bare, un, hok, r, q⟩ := h
  obtain ⟨hh, g, d, t, os'⟩ := s'
  obtain rfl : os' = s.os := os
  exact ⟨v, H', I.call (h' := hh) (g' := g) (d' := d) (t' := t) (ch := []) un hok bare (fun b z => absurd z (by simp)), r, q⟩
end

/-! ### calls -/
/-- f(..): the written arguments, then the defaults dvs; E: what is wanted of an exception -/
def tCall (sp : Sp) (dvs : List V) (E : XK) (t : TA) : TE := fun σ H Q => t σ H fun vs H1 => sp (vs ++ dvs) H1 Q E
/-- o.m(..) of an instance of the class at C -/
def tMeth (C : Addr) (m : Str) (sp : Sp) (dvs : List V) (E : XK) (ta : TE) (t : TA) : TE := fun σ H Q => ta σ H fun x H1 => ∃ a dx fs, x = .ref a ∧ H1 a = some (.ins C dx fs) ∧ fs.lookup m = none ∧
  t σ H1 fun vs H2 => sp (x :: (vs ++ dvs)) H2 Q E
/-- C(..): a new instance and its dict, then __init__ -/
def tMake (C : Addr) (sp : Sp) (dvs : List V) (E : XK) (t : TA) : TE := fun σ H Q => t σ H fun vs H1 => ∀ x dx, H1 x = none → H1 dx = none → dx ≠ x →
  sp (.ref x :: (vs ++ dvs)) (upd (upd H1 dx (.own x)) x (.ins C dx [])) (fun v H2 => v = .non ∧ Q (.ref x) H2) E

/-- how the parameters are bound: us the positional arguments, kw the keywords' values by name, ds the defaults that fill up -/
def Binds (K : PySem.W.Frag) (fd : FuncData) (ps : List Str) (ds : List Value) : Prop :=
  ∀ (s : Shared) (us : List Value), K.In s.heap → (us ++ ds).length = ps.length → BindsTo s fd ⟨us, []⟩ (ps.zip (us ++ ds))
/-- every parameter is given -/
theorem Binds.all {K : PySem.W.Frag} {fd : FuncData} {ps : List Str} (h : ∀ us : List Value, us.length = ps.length → bindArgs fd ⟨us, []⟩ = pure (ps.zip us)) : Binds K fd ps [] := fun s us _ hl => by
  rw [List.append_nil] at hl ⊢
  exact .of_eq (h us hl)

/-- an exception of a callee reaches what this body wants of exceptions -/
def Passes (CX : CXT) (X : Cx) (E : XK) : Prop := ∀ (pins : List (Addr × Obj)) (σ : St) (H : Hp) (s : Shared) (e : Value) (s' : Shared), Inv X pins σ H s → CX X.stack H s E e s' → X.xe e s'

section
variable {X : Cx} {CX : CXT} {k : Nat} {f C : Addr} {fd : FuncData} {ps : List Str} {sp : Sp} {dvs : List V} {ds : List Value} {E : XK} {x m : Str} {p pos apos : Pos} {e o : Expr} {es : List Expr} {ta : TE} {t : TA}

/-- the callee runs -/
theorem run_fn {pins : List (Addr × Obj)} {σ : St} {H : Hp} {s : Shared} {Q : VK} {us : List Value} {vs : List V} (F : FnOk X.prog X.w X.K X.mg X.base CX k f fd ps sp) (hr : Room k X.A) (hb : Binds X.K fd ps ds) (hd : Vals dvs ds) (hx : Passes CX X E)
    (I : Inv X pins σ H s) (r : Vals vs us) (h : sp (vs ++ dvs) H Q E) : wpAny (model X.prog X.w) X.A (call (.ref f) us) (EP X pins σ Q) X.xe s := by
  have r2 : Vals (vs ++ dvs) (us ++ ds) := r.append hd
  have hl : (us ++ ds).length = ps.length := by rw [← r2.length]; exact F.len _ _ _ _ h
  refine wpAny_call (codeAny_mono (F.run X.A X.stack s H ⟨us, []⟩ (us ++ ds) (vs ++ dvs) Q E hr I.env0 (hb s us I.kIn hl) r2 h) fun r s' hq => ?_)
  cases r with
  | error e => exact hx pins σ H s e s' I hq
  | ok fl =>
    cases fl with
    | ret u => exact I.after hq
    | next => exact False.elim hq
    | brk => exact False.elim hq
    | cont => exact False.elim hq

theorem pe_call (F : FnOk X.prog X.w X.K X.mg X.base CX k f fd ps sp) (hr : Room k X.A) (hg : Gl X x) (hm : X.mg x = some (.ref f)) (hk : PySem.W.keepIn X.K (.ref f) = true) (hb : Binds X.K fd ps ds) (hd : Vals dvs ds) (hx : Passes CX X E)
    (ha : PA X (e :: es) t) (hdb : (x == ("__debug__" : Str)) = false := by decide) (he : starEach (e :: es) X.env = (false, eval e X.env) :: starEach es X.env := by rfl) (hpl : (backTo pos (starEach es X.env)).any (·.1) = false := by rfl) :
    PE X (.Call (.Name x p) (e :: es) [] pos) (tCall sp dvs E t) := by
  intro pins s σ H Q I h
  refine wpAny_Call_Name_kw (ld_glob I hg hm ?_ hdb)
  refine PySem.W.callWith_K (h₀ := X.base) I.ok.mod.kin hk (thn (ha pos pins s σ H _ I h) fun us s1 ⟨vs, H1, I1, r, q⟩ => ⟨I1.kIn, ?_⟩) he hpl
  exact run_fn F hr hb hd hx I1 r q
theorem pe_call0 (F : FnOk X.prog X.w X.K X.mg X.base CX k f fd ps sp) (hr : Room k X.A) (hg : Gl X x) (hm : X.mg x = some (.ref f)) (hk : PySem.W.keepIn X.K (.ref f) = true) (hb : Binds X.K fd ps ds) (hd : Vals dvs ds) (hx : Passes CX X E)
    (hdb : (x == ("__debug__" : Str)) = false := by decide) : PE X (.Call (.Name x p) [] [] pos) (tCall sp dvs E tNil) := by
  intro pins s σ H Q I h
  refine wpAny_Call_Name_kw (ld_glob I hg hm ?_ hdb)
  exact PySem.W.callWith_K0 I.kIn hk (run_fn (us := []) F hr hb hd hx I .nil h)

/-- o.m(e, ..) -/
theorem pe_meth {pl : Sem Bool} (he : PE X o ta) (c : Cls X.K C) (hm : Meth X.K C m f) (F : FnOk X.prog X.w X.K X.mg X.base CX k f fd ps sp) (hr : Room k X.A) (hb : Binds X.K fd ps ds) (hd : Vals dvs ds) (hx : Passes CX X E) (ha : PA X (e :: es) t)
    (hst : starEach (e :: es) X.env = (false, eval e X.env) :: starEach es X.env := by rfl) (hpl : (backTo pos (starEach es X.env)).any (·.1) = false := by rfl)
    (ht : eval (.Call (.Attribute o m apos) (e :: es) [] pos) X.env = (do
      let ov ← eval o X.env
      standAt apos.atName
      let (f, first) ← holding [ov] (getMethod ov m pl)
      callWith pos f first (backTo pos (starEach (e :: es) X.env)) (backToKw pos (keywordEach [] X.env))) := by rfl) :
    PE X (.Call (.Attribute o m apos) (e :: es) [] pos) (tMeth C m sp dvs E ta t) := by
  intro pins s σ H Q I h
  refine PySem.W.methodCall_KW (pl := pl) (thn (he pins s σ H _ I h) fun u s1 ⟨x, H1, I1, rx, a, dx, fs, ex, ea, l, q⟩ => ?_) ht
  subst ex
  obtain rfl : u = Value.ref a := rx
  refine getmeth_ok I1 ea c hm l ?_
  refine PySem.W.callWith_K (first := [.ref a]) (h₀ := X.base) I.ok.mod.kin hm.kp (thn (ha pos pins s1 σ H1 _ I1 q) fun us s2 ⟨vs, H2, I2, r, q2⟩ => ⟨I2.kIn, ?_⟩) hst hpl
  exact run_fn (us := .ref a :: us) (vs := .ref a :: vs) F hr hb hd hx I2 (.cons rfl r) q2
/-- o.m() -/
theorem pe_meth0 {pl : Sem Bool} (he : PE X o ta) (c : Cls X.K C) (hm : Meth X.K C m f) (F : FnOk X.prog X.w X.K X.mg X.base CX k f fd ps sp) (hr : Room k X.A) (hb : Binds X.K fd ps ds) (hd : Vals dvs ds) (hx : Passes CX X E)
    (ht : eval (.Call (.Attribute o m apos) [] [] pos) X.env = (do
      let ov ← eval o X.env
      standAt apos.atName
      let (f, first) ← holding [ov] (getMethod ov m pl)
      callWith pos f first (backTo pos (starEach [] X.env)) (backToKw pos (keywordEach [] X.env))) := by rfl) :
    PE X (.Call (.Attribute o m apos) [] [] pos) (tMeth C m sp dvs E ta tNil) := by
  intro pins s σ H Q I h
  refine PySem.W.methodCall_KW (pl := pl) (thn (he pins s σ H _ I h) fun u s1 ⟨x, H1, I1, rx, a, dx, fs, ex, ea, l, q⟩ => ?_) ht
  subst ex
  obtain rfl : u = Value.ref a := rx
  refine getmeth_ok I1 ea c hm l ?_
  exact PySem.W.callWith_K0 (first := [.ref a]) I1.kIn hm.kp (run_fn (us := [.ref a]) (vs := [.ref a]) F hr hb hd hx I1 (.cons rfl .nil) q)

/-- what a class must have to be made -/
structure Mk (K : PySem.W.Frag) (C f : Addr) : Prop where
  makes : PySem.W.makesIn K C = true
  init : PySem.W.findIn K (.ref C) "__init__" = some (some (.ref f))
  fn : PySem.W.isFn K (.ref f) = true
  kp : PySem.W.keepIn K (.ref C) = true

theorem run_make {pins : List (Addr × Obj)} {σ : St} {H : Hp} {s : Shared} {Q : VK} {us : List Value} {vs : List V} (M : Mk X.K C f) (F : FnOk X.prog X.w X.K X.mg X.base CX k f fd ps sp) (hr : Room (k + 1) X.A) (hb : Binds X.K fd ps ds) (hd : Vals dvs ds)
    (hx : Passes CX X E) (I : Inv X pins σ H s) (r : Vals vs us)
    (h : ∀ x dx, H x = none → H dx = none → dx ≠ x → sp (.ref x :: (vs ++ dvs)) (upd (upd H dx (.own x)) x (.ins C dx [])) (fun v H2 => v = .non ∧ Q (.ref x) H2) E) :
    wpAny (model X.prog X.w) X.A (call (.ref C) us) (EP X pins σ Q) X.xe s := by
  have hq := h (s.heap.objs.size + 1) s.heap.objs.size (I.hok.fresh (Nat.le_succ _)) (I.hok.fresh (Nat.le_refl _)) (Nat.ne_of_lt (Nat.lt_succ_self _))
  have I2 := Inv.made (C := C) I
  have r2 : Vals (V.ref (s.heap.objs.size + 1) :: (vs ++ dvs)) (Value.ref (s.heap.objs.size + 1) :: (us ++ ds)) := .cons rfl (r.append hd)
  have hl : (Value.ref (s.heap.objs.size + 1) :: us ++ ds).length = ps.length := by
    have e := r2.length
    rw [F.len _ _ _ _ hq] at e
    exact e.symm
  refine wpAny_call (make_map (f := f) I.kIn M.makes M.init (beq_iff_eq.mp M.fn) (codeAny_mono (F.run _ X.stack _ _ ⟨Value.ref (s.heap.objs.size + 1) :: us, []⟩ (Value.ref (s.heap.objs.size + 1) :: (us ++ ds)) _ _ E (hr.make C us [])
    (I2.env0.make C us []) (hb _ (Value.ref (s.heap.objs.size + 1) :: us) I2.kIn hl) r2 hq) fun r s' hq' => ?_))
  cases r with
  | error e => exact hx pins σ _ _ e s' I2 hq'
  | ok fl =>
    cases fl with
    | ret u =>
      obtain ⟨v, H', I3, rv, ev, q3⟩ := I2.after hq'
      subst ev
      exact ⟨rv, ⟨V.ref (s.heap.objs.size + 1), H', I3, rfl, q3⟩⟩
    | next => exact False.elim hq'
    | brk => exact False.elim hq'
    | cont => exact False.elim hq'
theorem pe_make (M : Mk X.K C f) (F : FnOk X.prog X.w X.K X.mg X.base CX k f fd ps sp) (hr : Room (k + 1) X.A) (hg : Gl X x) (hm : X.mg x = some (.ref C)) (hb : Binds X.K fd ps ds) (hd : Vals dvs ds) (hx : Passes CX X E)
    (ha : PA X (e :: es) t) (hdb : (x == ("__debug__" : Str)) = false := by decide) (he : starEach (e :: es) X.env = (false, eval e X.env) :: starEach es X.env := by rfl) (hpl : (backTo pos (starEach es X.env)).any (·.1) = false := by rfl) :
    PE X (.Call (.Name x p) (e :: es) [] pos) (tMake C sp dvs E t) := by
  intro pins s σ H Q I h
  refine wpAny_Call_Name_kw (ld_glob I hg hm ?_ hdb)
  refine PySem.W.callWith_K (h₀ := X.base) I.ok.mod.kin M.kp (thn (ha pos pins s σ H _ I h) fun us s1 ⟨vs, H1, I1, r, q⟩ => ⟨I1.kIn, ?_⟩) he hpl
  exact run_make M F hr hb hd hx I1 r q
theorem pe_make0 (M : Mk X.K C f) (F : FnOk X.prog X.w X.K X.mg X.base CX k f fd ps sp) (hr : Room (k + 1) X.A) (hg : Gl X x) (hm : X.mg x = some (.ref C)) (hb : Binds X.K fd ps ds) (hd : Vals dvs ds) (hx : Passes CX X E)
    (hdb : (x == ("__debug__" : Str)) = false := by decide) : PE X (.Call (.Name x p) [] [] pos) (tMake C sp dvs E tNil) := by
  intro pins s σ H Q I h
  refine wpAny_Call_Name_kw (ld_glob I hg hm ?_ hdb)
  exact PySem.W.callWith_K0 I.kIn M.kp (run_make (us := []) M F hr hb hd hx I .nil h)
end

/-! ### keywords -/
/-- the values of the keywords, from the left -/
def PK (X : Cx) (kws : List Keyword) (t : TA) : Prop :=
  ∀ (pos : Pos) (pins : List (Addr × Obj)) (s : Shared) (σ : St) (H : Hp) (Q : List V → Hp → Prop), Inv X pins σ H s → t σ H Q → wpAny (model X.prog X.w) X.A (evalAll ((backToKw pos (keywordEach kws X.env)).map (·.2))) (AP X pins σ Q) X.xe s
section
variable {X : Cx} {CX : CXT} {k : Nat} {f C : Addr} {fd : FuncData} {ps ks : List Str} {sp : Sp} {E : XK} {x m : Str} {p pos apos kpos : Pos} {e o : Expr} {es : List Expr} {kws : List Keyword} {te ta : TE} {t tk : TA} {nm : Option Str}
theorem pk_nil : PK X [] tNil := fun _ _ _ _ H Q I h => wpAny_evalAll_nil ⟨[], H, I, .nil, h⟩
theorem pk_cons (ha : PE X e te) (hr : PK X kws t) : PK X (⟨nm, e, kpos⟩ :: kws) (tCons te t) := by
  intro pos pins s σ H Q I h
  show wpAny _ _ (evalAll ((do let v ← eval e X.env; standAt pos; pure v) :: (backToKw pos (keywordEach kws X.env)).map (·.2))) _ _ s
  refine wpAny_evalAll_cons (wpAny_bind (thn (ha pins s σ H _ I h) fun u s1 ⟨x, H1, I1, r1, q1⟩ => wpAny_bind (wpAny_standAt (wpAny_pure ?_))))
  exact thn (hr pos pins s1 σ H1 _ I1 q1) fun us s2 ⟨xs, H2, I2, r2, q2⟩ => ⟨x :: xs, H2, I2, .cons r1 r2, q2⟩

/-- how a call with keywords binds: g puts the positional values us and the keywords' values ws (names ks) in the parameters' order, defaults among them -/
structure KBinds (K : PySem.W.Frag) (fd : FuncData) (ps ks : List Str) (g : List Value → List Value → List Value) (gV : List V → List V → List V) : Prop where
  to : ∀ (s : Shared) (us ws : List Value), K.In s.heap → (g us ws).length = ps.length → BindsTo s fd ⟨us, ks.zip ws⟩ (ps.zip (g us ws))
  rel : ∀ {vs : List V} {us : List Value} {zs : List V} {ws : List Value}, Vals vs us → Vals zs ws → Vals (gV vs zs) (g us ws)
def tCallK (sp : Sp) (gV : List V → List V → List V) (E : XK) (t tk : TA) : TE := fun σ H Q => t σ H fun vs H1 => tk σ H1 fun zs H2 => sp (gV vs zs) H2 Q E
variable {g : List Value → List Value → List Value} {gV : List V → List V → List V}
theorem run_fnk {pins : List (Addr × Obj)} {σ : St} {H : Hp} {s : Shared} {Q : VK} {us ws : List Value} {vs zs : List V} (F : FnOk X.prog X.w X.K X.mg X.base CX k f fd ps sp) (hr : Room k X.A) (hb : KBinds X.K fd ps ks g gV) (hx : Passes CX X E)
    (I : Inv X pins σ H s) (r : Vals vs us) (rz : Vals zs ws) (h : sp (gV vs zs) H Q E) : wpAny (model X.prog X.w) X.A (call (.ref f) us (ks.zip ws)) (EP X pins σ Q) X.xe s := by
  have r2 := hb.rel r rz
  have hl : (g us ws).length = ps.length := by rw [← r2.length]; exact F.len _ _ _ _ h
  refine wpAny_call (codeAny_mono (F.run X.A X.stack s H ⟨us, ks.zip ws⟩ (g us ws) (gV vs zs) Q E hr I.env0 (hb.to s us ws I.kIn hl) r2 h) fun r s' hq => ?_)
  cases r with
  | error e => exact hx pins σ H s e s' I hq
  | ok fl =>
    cases fl with
    | ret u => exact I.after hq
    | next => exact False.elim hq
    | brk => exact False.elim hq
    | cont => exact False.elim hq
/-- f(e, .., k = v, ..) -/
theorem pe_callK (F : FnOk X.prog X.w X.K X.mg X.base CX k f fd ps sp) (hr : Room k X.A) (hg : Gl X x) (hm : X.mg x = some (.ref f)) (hk : PySem.W.keepIn X.K (.ref f) = true) (hb : KBinds X.K fd ps ks g gV) (hx : Passes CX X E)
    (ha : PA X (e :: es) t) (hkw : PK X kws tk) (hall : (backToKw pos (keywordEach kws X.env)).all (·.1.isSome) = true := by rfl) (hks : (backToKw pos (keywordEach kws X.env)).filterMap (·.1) = ks := by rfl)
    (hdb : (x == ("__debug__" : Str)) = false := by decide) (he : starEach (e :: es) X.env = (false, eval e X.env) :: starEach es X.env := by rfl)
    (hpl : ((backTo pos (starEach (e :: es) X.env)).any (·.1) || (backToKw pos (keywordEach kws X.env)).any (·.1.isNone)) = false := by rfl) :
    PE X (.Call (.Name x p) (e :: es) kws pos) (tCallK sp gV E t tk) := by
  intro pins s σ H Q I h
  refine wpAny_Call_Name_kw (ld_glob I hg hm ?_ hdb)
  refine PySem.W.callWith_KW (h₀ := X.base) I.ok.mod.kin hk hall (thn (ha pos pins s σ H _ I h) fun us s1 ⟨vs, H1, I1, r, q⟩ => ?_) hpl he
  refine thn (hkw pos pins s1 σ H1 _ I1 q) fun ws s2 ⟨zs, H2, I2, rz, q2⟩ => ⟨I2.kIn, ?_⟩
  rw [hks]
  exact run_fnk F hr hb hx I2 r rz q2
end

/-! ### a def's body keeps its promise -/
/-- names: the parameters first -/
structure FnScope (N P : List Str) (sc : Scope) : Prop where
  kind : sc.kind = .function
  co : sc.isCoroutine = false
  gen : sc.isGenerator = false
  nd : N.Nodup
  pre : N.take P.length = P
  par : ∀ x ∈ P, sc.names.lookup x = some .local ∨ sc.names.lookup x = some .cell
  nofree : ∀ y ∈ sc.names, y.2 ≠ .free

theorem bindL_out {kindOf : Str → Option NameKind} {x : Str} : ∀ {binds : List (Str × Value)} {m : Str → Option Value}, (∀ v, (x, v) ∉ binds) → bindL kindOf binds m x = m x
  | [], _, _ => rfl
  | (n, v) :: r, m, h => by
    unfold bindL
    rw [bindL_out fun w hw => h w (List.mem_cons_of_mem _ hw)]
    split
    · have : x ≠ n := by rintro rfl; exact h v List.mem_cons_self
      simp [this]
    · rfl
theorem bindC_out {kindOf : Str → Option NameKind} {x : Str} : ∀ {binds : List (Str × Value)} {m : Str → Option Value}, (∀ v, (x, v) ∉ binds) → bindC kindOf binds m x = m x
  | [], _, _ => rfl
  | (n, v) :: r, m, h => by
    unfold bindC
    rw [bindC_out fun w hw => h w (List.mem_cons_of_mem _ hw)]
    split
    · rfl
    · have : x ≠ n := by rintro rfl; exact h v List.mem_cons_self
      simp [this]
theorem bindL_get {kindOf : Str → Option NameKind} {x : Str} {v : Value} : ∀ {P : List Str} {vs : List Value} {i : Nat} {m : Str → Option Value}, P.Nodup → P[i]? = some x → vs[i]? = some v → kindOf x = some .local →
    bindL kindOf (P.zip vs) m x = some v
  | [], _, _, _, _, h, _, _ => by simp at h
  | _ :: _, [], _, _, _, _, h, _ => by simp at h
  | p :: P, w :: vs, 0, m, nd, h1, h2, hk => by
    simp at h1 h2; subst h1; subst h2
    show bindL kindOf ((p, w) :: P.zip vs) m p = _
    unfold bindL
    rw [bindL_out fun v hv => (List.nodup_cons.mp nd).1 (List.of_mem_zip hv).1, if_pos hk]
    simp
  | p :: P, w :: vs, i + 1, m, nd, h1, h2, hk => by
    show bindL kindOf ((p, w) :: P.zip vs) m x = _
    unfold bindL
    exact bindL_get (i := i) (List.nodup_cons.mp nd).2 (by simpa using h1) (by simpa using h2) hk
theorem bindC_get {kindOf : Str → Option NameKind} {x : Str} {v : Value} : ∀ {P : List Str} {vs : List Value} {i : Nat} {m : Str → Option Value}, P.Nodup → P[i]? = some x → vs[i]? = some v → kindOf x ≠ some .local →
    bindC kindOf (P.zip vs) m x = some v
  | [], _, _, _, _, h, _, _ => by simp at h
  | _ :: _, [], _, _, _, _, h, _ => by simp at h
  | p :: P, w :: vs, 0, m, nd, h1, h2, hk => by
    simp at h1 h2; subst h1; subst h2
    show bindC kindOf ((p, w) :: P.zip vs) m p = _
    unfold bindC
    rw [bindC_out fun v hv => (List.nodup_cons.mp nd).1 (List.of_mem_zip hv).1, if_neg hk]
    simp
  | p :: P, w :: vs, i + 1, m, nd, h1, h2, hk => by
    show bindC kindOf ((p, w) :: P.zip vs) m x = _
    unfold bindC
    exact bindC_get (i := i) (List.nodup_cons.mp nd).2 (by simpa using h1) (by simpa using h2) hk

/-- the names' values at the entry -/
def start (N : List Str) (vs : List V) : St := vs.map some ++ List.replicate (N.length - vs.length) none

/-- the context of a def's body, at its entry; an exception leaves the frame, then lies as CX says -/
def cxOf (CX : CXT) (P : Program) (w : World) (K : PySem.W.Frag) (mg : Str → Option Value) (base : Heap) (N : List Str) (qual : Str) (scope : Scope) (f : Addr) (cd : Value) (A : Around) (outer : List Env) (s : Shared) (H : Hp) (E : XK) : Cx where
  prog := P
  w := w
  K := K
  mg := mg
  base := base
  A := A.deeper (envOfC qual scope s.heap.objs.size f cd)
  N := N
  s₀ := s
  H₀ := H
  env := envOfC qual scope s.heap.objs.size f cd
  outer := outer
  stack := envOfC qual scope s.heap.objs.size f cd :: outer
  ex := []
  calm := true
  fn := fun _ => true
  pn := []
  xe := fun e s' => wpAny (model P w) (A.deeper (envOfC qual scope s.heap.objs.size f cd)) (leaving (envOfC qual scope s.heap.objs.size f cd) e) (fun _ s'' => CX outer H s E e s'') (fun e' s'' => CX outer H s E e' s'') s'

theorem cell_has {sc : Scope} {n : Nat} {x : Str} (h : sc.names.lookup x = some .cell) : ∃ c, (cellsFrom n sc.names []).lookup x = some c := by
  have q := PySem.W.cellsFrom_some sc.names n [] (.inl h)
  exact Option.isSome_iff_exists.mp q

theorem inv_start {CX : CXT} {P : Program} {w : World} {K : PySem.W.Frag} {mg : Str → Option Value} {base : Heap} {N ps : List Str} {qual : Str} {scope : Scope} {f : Addr} {cd : Value} {A : Around} {outer : List Env} {s s1 : Shared} {H : Hp} {E : XK} {us : List Value} {vs : List V}
    (S : FnScope N ps scope) (hd : A.handled = none) (e0 : Env0 P w K mg base A outer s H) (hl : vs.length = ps.length) (r : Vals vs us)
    (x : InCallC s s.heap.objs.size (bindL (envOfC qual scope s.heap.objs.size f cd).kindOf (ps.zip us) fun _ => none) (cellsFrom (s.heap.objs.size + 1) scope.names []) (bindC (envOfC qual scope s.heap.objs.size f cd).kindOf (ps.zip us) fun _ => none) s1) :
    Inv (cxOf CX P w K mg base N qual scope f cd A outer s H E) [] (start N vs) H s1 := by
  have hpl : ps.length ≤ N.length := by have := congrArg List.length S.pre; rw [List.length_take] at this; omega
  obtain ⟨h1, tk, rfl, hk⟩ := x.done
  have noA : ∀ b : Addr, b ∉ (cxOf CX P w K mg base N qual scope f cd A outer s H E).ex := fun b z => absurd (show b ∈ ([] : List Addr) from z) (by simp)
  refine ⟨⟨e0.mod, S.kind, rfl, rfl, Nat.le_refl _, fun y z c h1 h2 => ?_, fun y hy => ?_, fun y c _ h => ?_, fun _ => hd, Around.frames_deeper e0.frames, .inr ⟨rfl, rfl⟩, fun b z => absurd z (noA b), e0.bs, e0.bsz, fun b _ _ => noA b, fun b z => absurd z (noA b), e0.funs, e0.frf⟩,
    rfl, e0.bare, Un.kept hk, ⟨_, x.toInCall.ns, fun i y v h1 h2 h3 => ?_⟩, fun y c h => ⟨_, x.cell y c h⟩, e0.hok.fresh (Nat.le_refl _), fun y c h => ?_, fun p hp => absurd (show p ∈ ([] : List (Addr × Obj)) from hp) (by simp), e0.hok.kept hk, ?_⟩
  · exact name_of_addr x.apart (PySem.mem_of_lookup h1) (PySem.mem_of_lookup h2)
  · have hy : scope.names.lookup y = some .cell ∨ scope.names.lookup y = some .free := hy
    rcases hy with hy | hy
    · exact cell_has hy
    · exact absurd rfl (S.nofree _ (PySem.mem_of_lookup hy))
  · exact Nat.le_of_lt (x.above y c (PySem.mem_of_lookup h))
  · have hi : i < vs.length := by
      unfold start at h2
      by_cases hi : i < vs.length
      · exact hi
      · rw [List.getElem?_append_right (by simpa using hi)] at h2
        rw [List.getElem?_replicate] at h2
        split at h2 <;> cases h2
    have ha : vs[i]? = some v := by
      unfold start at h2
      rw [List.getElem?_append_left (by simpa using hi), List.getElem?_map] at h2
      cases e : vs[i]? with
      | none => rw [e] at h2; cases h2
      | some a => rw [e] at h2; cases h2; rfl
    obtain ⟨u, hu, rv⟩ := r.get ha
    have hp : ps[i]? = some y := by
      rw [← S.pre, List.getElem?_take_of_lt (by omega)]; exact h1
    have ndP : ps.Nodup := by rw [← S.pre]; exact S.nd.sublist (List.take_sublist _ _)
    refine ⟨u, rv, ?_⟩
    rcases S.par y (List.mem_of_getElem? hp) with k | k
    · exact .inl ⟨k, bindL_get ndP hp hu k⟩
    · obtain ⟨c, e⟩ := cell_has (n := s.heap.objs.size + 1) k
      refine .inr ⟨.inl k, c, e, ?_⟩
      have q := x.cell y c e
      rw [bindC_get ndP hp hu (by show scope.names.lookup y ≠ _; rw [k]; decide)] at q
      exact q
  · exact e0.hok.fresh (Nat.le_of_lt (x.above y c (PySem.mem_of_lookup h)))
  · unfold start
    show _ = N.length
    rw [List.length_append, List.length_map, List.length_replicate]
    omega

/-- THE RULE: a def (or a method) of the text, by its body. The body's reading t is chosen for each entry; it is run at the parameters' values -/
theorem fn_of {CX : CXT} {P : Program} {w : World} {K : PySem.W.Frag} {mg : Str → Option Value} {base : Heap} {k : Nat} {f : Addr} {name qual : Str} {params : Arguments} {body : List Stmt} {scope : Scope} {dV kV doc pm cdv ct oc : Value} {an od : Option Addr}
    {osl : Array (Option Value)} {N ps : List Str} {sp : Sp} (lk : K.lookup f = some ⟨oc, od, .func (PySem.W.fnOf name qual params body scope dV kV doc pm an cdv ct), osl⟩) (hcd : PySem.W.codeIn K cdv qual = true) (S : FnScope N ps scope)
    (len : ∀ vs H Q E, sp vs H Q E → vs.length = ps.length)
    (hbody : ∀ (A : Around) (outer : List Env) (s : Shared) (H : Hp) (vs : List V) (Q : VK) (E : XK), Room k (A.deeper (envOfC qual scope s.heap.objs.size f cdv)) → sp vs H Q E →
      ∃ t, PSs (cxOf CX P w K mg base N qual scope f cdv A outer s H E) body t ∧ t { nx := fun _ H' => Q .non H', rt := Q } (start N vs) H) :
    FnOk P w K mg base CX (k + 1) f (PySem.W.fnOf name qual params body scope dV kV doc pm an cdv ct) ps sp := by
  refine ⟨len, fun A outer s H args us vs Q E hr e0 hb r hsp => ?_⟩
  have hl := len _ _ _ _ hsp
  have KX : K.In s.heap := e0.mod.kin.keeps fun b o e => (e0.bs b o e).1
  have lim : s.heap.NoLimit := e0.mod.nolimit.keeps fun b o e => (e0.bs b o e).1
  have hkind : ∀ y ∈ ps.zip us, scope.names.lookup y.1 = some .local ∨ (scope.names.lookup y.1 = some .cell ∧ ((cellsFrom (s.heap.objs.size + 1) scope.names []).lookup y.1).isSome = true) := fun ⟨n, v⟩ hy => by
    rcases S.par n (List.of_mem_zip hy).1 with q | q
    · exact .inl q
    · exact .inr ⟨q, PySem.W.cellsFrom_some _ _ _ (.inl q)⟩
  refine codeAny_call_function hr.depth (KX _ _ lk) rfl S.co S.gen rfl (PySem.W.codeRec_of KX hcd) (hb _ _ _ _ ?_)
  refine wpAny_newFunctionEnv_cells S.kind hkind fun env he s1 x => ?_
  subst he
  refine ⟨lim.keeps x.toInCall.keep, codeAny_func ?_⟩
  obtain ⟨t, ht, hq⟩ := hbody A outer s H vs Q E (hr.deeper _) hsp
  have I : Inv (cxOf CX P w K mg base N qual scope f cdv A outer s H E) [] (start N vs) H s1 := inv_start S hr.hd e0 hl r x
  refine wpAny_mono (ht [] s1 (start N vs) H _ I hq) (fun fl s' hs => ?_) fun e s' hs => hs
  have fin : ∀ {σ' : St} {H' : Hp} {v : V} {u : Value}, Inv (cxOf CX P w K mg base N qual scope f cdv A outer s H E) [] σ' H' s' → RelV v u → Q v H' → CE outer P w H s Q u s' :=
    fun {σ' H' v u} J rv q => ⟨v, H', J.os, J.bare, J.base, J.hok, rv, q⟩
  cases fl with
  | ret u =>
    obtain ⟨v, σ', H', J, rv, q⟩ := hs
    exact fin J rv q
  | next =>
    obtain ⟨σ', H', J, q⟩ := hs
    exact fin (v := V.non) (u := Value.none) J rfl q
  | brk =>
    obtain ⟨_, _, _, q⟩ := hs
    exact False.elim q
  | cont =>
    obtain ⟨_, _, _, q⟩ := hs
    exact False.elim q
end L2

namespace L2
open PySem PySem.Spec PyProof.Rows
section
variable {X : Cx} {x : Str} {p pos : Pos} {e : Expr} {es : List Expr} {t : TA} {id T : String} {r : List V → Hp → VK → Prop}

def tCB (r : List V → Hp → VK → Prop) (t : TA) : TE := fun σ H Q => t σ H fun vs H1 => r vs H1 Q
/-- f(e, ..), f a built-in function -/
theorem pe_callB (hc : CallR X (.builtin id) r) (hg : Gl X x) (hm : X.mg x = none) (hv : bootBuiltins x = some (.builtin id)) (ha : PA X (e :: es) t) (hn : x ≠ "__name__" := by decide) (hdb : (x == ("__debug__" : Str)) = false := by decide)
    (he : starEach (e :: es) X.env = (false, eval e X.env) :: starEach es X.env := by rfl) (hpl : (backTo pos (starEach es X.env)).any (·.1) = false := by rfl) : PE X (.Call (.Name x p) (e :: es) [] pos) (tCB r t) := by
  intro pins s σ H Q I h
  refine wpAny_Call_Name_kw (ld_blt I hg hm hv ?_ hn hdb)
  exact PyProof.Rows.callWith_builtin1 (thn (ha pos pins s σ H _ I h) fun us s1 ⟨vs, H1, I1, r1, q1⟩ => hc pins s1 σ H1 vs us Q I1 r1 q1) he hpl
/-- T(e, ..), T a built-in type -/
theorem pe_callTy (hc : CallR X (.type T) r) (hg : Gl X x) (hm : X.mg x = none) (hv : bootBuiltins x = some (.type T)) (ha : PA X (e :: es) t) (hn : x ≠ "__name__" := by decide) (hdb : (x == ("__debug__" : Str)) = false := by decide)
    (he : starEach (e :: es) X.env = (false, eval e X.env) :: starEach es X.env := by rfl) (hpl : (backTo pos (starEach es X.env)).any (·.1) = false := by rfl) : PE X (.Call (.Name x p) (e :: es) [] pos) (tCB r t) := by
  intro pins s σ H Q I h
  refine wpAny_Call_Name_kw (ld_blt I hg hm hv ?_ hn hdb)
  exact PyProof.Rows.callWith_type1 (thn (ha pos pins s σ H _ I h) fun us s1 ⟨vs, H1, I1, r1, q1⟩ => hc pins s1 σ H1 vs us Q I1 r1 q1) he hpl
/-- T() -/
theorem pe_callTy0 (hc : CallR X (.type T) r) (hg : Gl X x) (hm : X.mg x = none) (hv : bootBuiltins x = some (.type T)) (hn : x ≠ "__name__" := by decide) (hdb : (x == ("__debug__" : Str)) = false := by decide) :
    PE X (.Call (.Name x p) [] [] pos) (tCB r tNil) := by
  intro pins s σ H Q I h
  refine wpAny_Call_Name_kw (ld_blt I hg hm hv ?_ hn hdb)
  exact PyProof.Rows.callWith_type0 (hc pins s σ H [] [] Q I .nil h)
end
end L2

namespace HT
open PySem PyProof.Rows

/-- t < u of tuples of ints -/
def lexLt : List Int → List Int → Bool
  | [], [] => false
  | [], _ :: _ => true
  | _ :: _, [] => false
  | x :: xs, y :: ys => if x = y then lexLt xs ys else decide (x < y)
theorem lexLt_cons (x y : Int) (xs ys : List Int) : lexLt (x :: xs) (y :: ys) = if x = y then lexLt xs ys else decide (x < y) := rfl
theorem lexLt_nil_nil : lexLt [] [] = false := rfl
theorem lexLt_nil_cons (y : Int) (ys : List Int) : lexLt [] (y :: ys) = true := rfl
theorem lexLt_cons_nil (x : Int) (xs : List Int) : lexLt (x :: xs) [] = false := rfl

theorem eqAt_int (A : Around) (s : Shared) (a : Int) (t : Tok) (c : Int) (u : Tok) : ∃ e, SeqAt.EqAt A s (.int a t) (.int c u) e ∧ (e = true ↔ a = c) :=
  ⟨(a == c), SeqAt.EqAt.int_int a t c u, by simp⟩
theorem rcLt_int (A : Around) (s : Shared) (a : Int) (t : Tok) (c : Int) (u : Tok) (prog : Program) (w : World) (E : Value → Shared → Prop) (Q : Value → Shared → Prop) (h : Q (.bool (decide (a < c))) s) :
    wpAny (model prog w) A (richCompare .Lt (.int a t) (.int c u)) Q E s :=
  (PyProof.Rows.lt_int h : wpAny (model prog w) A (compareOp .Lt (.int a t) (.int c u)) Q E s)

section
open PySem.SeqAt
open PySem.AutoSeq1 (wpAny_loadPart')
open PySem.MeetsSeq PySem.MeetsSeq2 PySem.MeetsSeq3

theorem tuple_lt_ints (l b : Addr) (items items2 : Array Value) (n n2 : Nat) (dd dd2 : Option Addr) (sl sl2 : Array (Option Value)) (ns ms : List Int) (hi : IntsAre items.toList ns) (hj : IntsAre items2.toList ms) :
    Meets (Builtin.«tuple.__lt__» ⟨[.ref l, .ref b], []⟩)
      (fun _ R s => s.heap.get? l = some { cls := .type "tuple", dict := dd, data := .seq items n, slots := sl } ∧ s.heap.get? b = some { cls := .type "tuple", dict := dd2, data := .seq items2 n2, slots := sl2 } ∧
        R (.ok (.ret (.bool (lexLt ns ms)))) s) :=
  .of_wp fun prog w A R s h => by
    obtain ⟨hp, g, d, tk, os⟩ := s; obtain ⟨hl, hb, h⟩ := h
    have f2 := AutoSeq1.sub_tuple_tuple
    have z1 : items.size = ns.length := by rw [← hi.length]; simp
    have z2 : items2.size = ms.length := by rw [← hj.length]; simp
    wp_walk using wpAny_loadPart' hl, wpAny_loadPart' hb, wpAny_forIn_list _ (fun rest b s' => b.1 = none ∧ s' = ⟨hp, g, d, tk, os⟩ ∧ ∃ (vs ws : List Value) (ns' ms' : List Int), rest = vs.zip ws ∧
      IntsAre vs ns' ∧ IntsAre ws ms' ∧ ns'.length + items2.size = ms'.length + items.size ∧ R (.ok (.ret (.bool (lexLt ns' ms')))) ⟨hp, g, d, tk, os⟩) _
    case turn =>
      rintro ⟨y, x⟩ rest b s' ⟨hb', rfl, vs, ws, ns', ms', hz, hvi, hwi, hlen, hR⟩
      cases hvi with
      | nil => rw [List.zip_nil_left] at hz; cases hz
      | cons a t hvi' =>
        cases hwi with
        | nil => rw [List.zip_nil_right] at hz; cases hz
        | cons c u hwi' =>
          rw [List.zip_cons_cons] at hz
          injection hz with hyx hrest
          injection hyx with hy hx
          subst hy hx
          rw [lexLt_cons] at hR
          simp only [List.length_cons] at hlen
          obtain ⟨e, he, hiff⟩ := eqAt_int A.in1 ⟨hp, g, d, tk, os⟩ a t c u
          refine wpAny_bind (he prog w _ _ ?_)
          cases e with
          | true =>
            rw [if_pos (hiff.mp rfl)] at hR
            wp_walk
            exact ⟨rfl, rfl, _, _, _, _, hrest, hvi', hwi', by omega, hR⟩
          | false =>
            rw [if_neg (fun q => absurd (hiff.mpr q) Bool.false_ne_true)] at hR
            have hri := rcLt_int A.in1 ⟨hp, g, d, tk, os⟩ a t c u prog w
            wp_walk using hri
            exact ⟨_, rfl, by simpa using hR⟩
    case fin =>
      rintro ⟨b1, b2⟩ s' ⟨hb', rfl, vs, ws, ns', ms', hz, hvi, hwi, hlen, hR⟩
      simp only at hb'
      subst hb'
      have hv : lexLt ns' ms' = decide (items.size < items2.size) := by
        cases hvi with
        | nil =>
          cases hwi with
          | nil =>
            simp only [List.length_nil] at hlen
            rw [lexLt_nil_nil]
            exact (decide_eq_false (by omega)).symm
          | cons c u hw =>
            simp only [List.length_nil, List.length_cons] at hlen
            rw [lexLt_nil_cons]
            exact (decide_eq_true (by omega)).symm
        | cons a t hv =>
          cases hwi with
          | nil =>
            simp only [List.length_nil, List.length_cons] at hlen
            rw [lexLt_cons_nil]
            exact (decide_eq_false (by omega)).symm
          | cons c u hw =>
            rw [List.zip_cons_cons] at hz
            cases hz
      rw [hv] at hR
      wp_walk
      exact ⟨_, rfl, by simpa [Builtin.Tuple.tupleCompareSizes] using hR⟩
    case h =>
      exact ⟨rfl, rfl, items.toList, items2.toList, ns, ms, rfl, hi, hj, by omega, h⟩
end

section
variable {prog : Program} {w : World} {A : Around} {E : Value → Shared → Prop} {s : Shared}

theorem lt_tupInts {l b : Addr} {items items2 : Array Value} {ns ms : List Int} {Q : Value → Shared → Prop} (hl : IsTup s.heap l items) (hb : IsTup s.heap b items2) (hi : IntsAre items.toList ns) (hj : IntsAre items2.toList ms)
    (hu : A.units < cLine) (h : Q (.bool (lexLt ns ms)) s) : wpAny (model prog w) A (compareOp .Lt (.ref l) (.ref b)) Q E s := by
  obtain ⟨⟨cls, dd, data, sl⟩, ho, hc, n, hd⟩ := id hl
  obtain ⟨⟨cls2, dd2, data2, sl2⟩, ho2, hc2, n2, hd2⟩ := id hb
  simp only at hc hd hc2 hd2
  subst hc hd hc2 hd2
  exact richCompare_meets_room (op := .Lt) ⟨_, ho, rfl⟩ ⟨_, ho2, rfl⟩ PySem.F.slot_tuple_lt PySem.F.entry_tuple_lt (PySem.F.args_tuple_lt_2 _ _) (tuple_lt_ints l b items items2 n n2 dd dd2 sl sl2 ns ms hi hj)
    ⟨ho, ho2, show Value.bool (lexLt ns ms) ≠ Value.notImplemented ∧ Q (.bool (lexLt ns ms)) s from ⟨(fun x => nomatch x), h⟩⟩ hu

/-- t + u, t not empty -/
theorem cat_tup {t b : Addr} {vs ws : List Value} {Q : Value → Shared → Prop} (ht : IsTup s.heap t vs.toArray) (hb : IsTup s.heap b ws.toArray) (hv : vs ≠ [])
    (h1 : ws = [] → Q (.ref t) s) (h2 : ws ≠ [] → Q (.ref s.heap.objs.size) { s with heap := s.heap.push { cls := .type "tuple", data := .seq (vs ++ ws).toArray } })
    (hsz : vs.length + ws.length ≤ sizeLine) : wpAny (model prog w) A (binaryOp .Add (.ref t) (.ref b)) Q E s := by
  obtain ⟨⟨cls, dd, data, sl⟩, ho, hc, n, hd⟩ := id ht
  obtain ⟨⟨cls2, dd2, data2, sl2⟩, ho2, hc2, n2, hd2⟩ := id hb
  simp only at hc hd hc2 hd2
  subst hc hd hc2 hd2
  have e : vs.toArray ++ ws.toArray = (vs ++ ws).toArray := by simp
  by_cases hw : ws = []
  · exact concat_meets ⟨_, ho, rfl⟩ ⟨_, ho2, rfl⟩ noFill_tuple_add seq_tuple_add PySem.F.slot_tuple_add PySem.F.entry_tuple_add (PySem.F.args_tuple_add_2 _ _)
      (tuple_addW1 t b vs.toArray ws.toArray n n2 dd dd2 sl sl2 (by simpa using hv) (by simp [hw])) ⟨ho, ho2, h1 hw⟩
  · refine concat_meets ⟨_, ho, rfl⟩ ⟨_, ho2, rfl⟩ noFill_tuple_add seq_tuple_add PySem.F.slot_tuple_add PySem.F.entry_tuple_add (PySem.F.args_tuple_add_2 _ _)
      (tuple_addW2 t b vs.toArray ws.toArray n n2 dd dd2 sl sl2 (by simpa using hv) (by simpa using hw) (by rw [List.size_toArray, List.size_toArray]; exact hsz)) ⟨ho, ho2, ?_⟩
    rw [e]
    exact h2 hw

/-! ### t[a:b], not the whole -/
/-- a slice's bound as a place among n (d where it is left out) -/
def sIx (n d : Nat) : Option Int → Nat
  | none => d
  | some v => if v < 0 then (v + (n : Int)).toNat else min v.toNat n
theorem sIx_none (n d : Nat) : sIx n d none = d := rfl
theorem sIx_nat (n d k : Nat) : sIx n d (some (k : Int)) = min k n := by
  show (if (k : Int) < 0 then ((k : Int) + (n : Int)).toNat else min (k : Int).toNat n) = min k n
  rw [if_neg (by omega), Int.toNat_natCast]
theorem sIx_le (n d : Nat) (hd : d ≤ n) (o : Option Int) : sIx n d o ≤ n := by
  cases o with
  | none => exact hd
  | some v =>
    show (if v < 0 then (v + (n : Int)).toNat else min v.toNat n) ≤ n
    by_cases hv : v < 0
    · rw [if_pos hv]; omega
    · rw [if_neg hv]; exact Nat.min_le_right _ _
theorem clip_eq (v : Int) (n d : Nat) : (if v < 0 then max (v + (n : Int)) 0 else min v (n : Int)) = ((sIx n d (some v) : Nat) : Int) := by
  show (if v < 0 then max (v + (n : Int)) 0 else min v (n : Int)) = (((if v < 0 then (v + (n : Int)).toNat else min v.toNat n) : Nat) : Int)
  by_cases hv : v < 0
  · simp only [if_pos hv]; omega
  · simp only [if_neg hv]; omega
theorem adjust_gen (lo hi : Option Int) (n : Nat) : Builtin.Slice.sliceAdjust lo hi 1 (n : Int) = (((sIx n 0 lo : Nat) : Int), ((sIx n n hi : Nat) : Int)) := by
  have h1 : ¬ ((1 : Int) < 0) := by omega
  unfold Builtin.Slice.sliceAdjust
  simp only [h1, if_false]
  refine Prod.ext ?_ ?_
  · cases lo with
    | none => rfl
    | some v => exact clip_eq v n 0
  · cases hi with
    | none => rfl
    | some v => exact clip_eq v n n
theorem places_gen (i j : Nat) : Builtin.Slice.slicePlaces (i : Int) (j : Int) 1 = j - i := by
  unfold Builtin.Slice.slicePlaces
  have h1 : (1 : Int) > 0 := by omega
  simp only [h1, if_true, Int.ediv_one]
  split <;> omega
theorem slicePart_ {v : Value} {o : Option Int} {Q : Option Int → Shared → Prop} (p : IsPart v o) (h : Q o s) : wpAny (model prog w) A (Builtin.Slice.slicePartIndex v) Q E s := by
  cases p with
  | none => exact slicePart_none h
  | int i t => exact slicePart_int h
theorem sliceApplied_gen {sl : Addr} {vl vu : Value} {lo hi : Option Int} {n : Nat} {Q : Int × Int × Nat → Shared → Prop} (hs : s.heap.IsSliceOf sl vl vu .none) (pl : IsPart vl lo) (pu : IsPart vu hi)
    (h : Q (((sIx n 0 lo : Nat) : Int), 1, sIx n n hi - sIx n 0 lo) s) : wpAny (model prog w) A (Builtin.Slice.sliceApplied (.ref sl) (pure (n : Int))) Q E s := by
  obtain ⟨os, hos, hcs, hds⟩ := id hs
  unfold Builtin.Slice.sliceApplied Builtin.Slice.sliceFields
  refine wpAny_bind (wpAny_bind (wpAny_field hos hds (x := vl) rfl (wpAny_bind (wpAny_field hos hds (x := vu) rfl (wpAny_bind (wpAny_field hos hds (x := .none) rfl (wpAny_pure ?_)))))))
  refine wpAny_bind (slicePart_none ?_)
  show wpAny _ _ (if ((1 : Int) == 0) = true then _ else _) _ _ s
  rw [if_neg (by decide)]
  refine wpAny_bind (slicePart_ pl (wpAny_bind (slicePart_ pu (wpAny_bind (wpAny_pure ?_)))))
  show wpAny _ _ (match Builtin.Slice.sliceAdjust lo hi 1 (n : Int) with | (lo, hi) => pure (lo, (1 : Int), Builtin.Slice.slicePlaces lo hi 1)) _ _ s
  rw [adjust_gen lo hi n]
  show wpAny _ _ (pure (((sIx n 0 lo : Nat) : Int), (1 : Int), Builtin.Slice.slicePlaces ((sIx n 0 lo : Nat) : Int) ((sIx n n hi : Nat) : Int) 1)) _ _ s
  rw [places_gen]
  exact wpAny_pure h
theorem pick_gen (xs : Array Value) (i k : Nat) : ((List.range k).filterMap fun (m : Nat) => xs[((i : Int) + (m : Int) * 1).toNat]?).toArray = ((xs.toList.drop i).take k).toArray := by
  have e : (fun (m : Nat) => xs[((i : Int) + (m : Int) * 1).toNat]?) = fun m => xs[i + m]? := by
    funext m
    have : ((i : Int) + (m : Int) * 1).toNat = i + m := by omega
    rw [this]
  rw [e]
  have := pick_run xs i k
  rw [List.filterMap_map] at this
  have e2 : ((fun x => xs[x]?) ∘ fun x => i + x) = fun m => xs[i + m]? := rfl
  rw [e2] at this
  rw [this]

theorem getItem_tuple_cut {t sl : Addr} {items : Array Value} {vl vu : Value} {lo hi : Option Int} {Q : Value → Shared → Prop} (ht : IsTup s.heap t items) (hs : s.heap.IsSliceOf sl vl vu .none) (pl : IsPart vl lo) (pu : IsPart vu hi)
    (hw : ¬ (sIx items.size 0 lo = 0 ∧ sIx items.size items.size hi = items.size))
    (h : Q (.ref s.heap.objs.size) { s with heap := s.heap.push { cls := .type "tuple", data := .seq ((items.toList.drop (sIx items.size 0 lo)).take (sIx items.size items.size hi - sIx items.size 0 lo)).toArray } })
    (hsz : items.size ≤ sizeLine) : wpAny (model prog w) A (getItem (.ref t) (.ref sl)) Q E s := by
  have htake : sizeOk (.seq ((items.toList.drop (sIx items.size 0 lo)).take (sIx items.size items.size hi - sIx items.size 0 lo)).toArray) := by
    show ((items.toList.drop (sIx items.size 0 lo)).take (sIx items.size items.size hi - sIx items.size 0 lo)).toArray.size ≤ sizeLine
    rw [List.size_toArray, List.length_take, List.length_drop, Array.length_toList]
    omega
  have hj : sIx items.size items.size hi ≤ items.size := sIx_le _ _ (Nat.le_refl _) hi
  obtain ⟨os, hos, hcs, hds⟩ := id hs
  have hTs : s.TypeIs (.ref sl) "slice" := ⟨os, hos, hcs⟩
  unfold getItem
  try with_reducible refine wpAny_holding ?_
  first | refine wpAny_bind (wpAny_pure ?_) | skip
  refine wpAny_bind (wpAny_sequenceKey ht.typeIs (by decide) ?_)
  refine wpAny_bind (wpAny_callSpecial?_slot (name := Str.ofString "__getitem__") ht.typeIs PyProof.Rows.slot_tuple_getitem
    (wpAny_call_entry PyProof.Rows.slot_tuple_getitem ht.typeIs entry_tuple_getitem ?_ (args_tuple_getitem _ _)))
  show wpAny _ _ (Builtin.Tuple.tupleItemsOf (.ref t) >>= _) _ _ s
  refine wpAny_bind (tupleItemsOf_ ht ?_)
  refine wpAny_bind (wpAny_typeOf hTs ?_)
  rw [if_pos (by decide)]
  refine wpAny_bind (sliceApplied_gen hs pl pu ?_)
  have hno : ¬ ((((sIx items.size 0 lo : Nat) : Int) == 0 && (1 : Int) == 1 && (sIx items.size items.size hi - sIx items.size 0 lo) == items.size) = true) := by
    intro q
    rw [Bool.and_eq_true, Bool.and_eq_true] at q
    have q1 : ((sIx items.size 0 lo : Nat) : Int) = 0 := eq_of_beq q.1.1
    have q2 : sIx items.size items.size hi - sIx items.size 0 lo = items.size := eq_of_beq q.2
    exact hw ⟨by omega, by omega⟩
  show wpAny _ _ (if (((sIx items.size 0 lo : Nat) : Int) == 0 && (1 : Int) == 1 && (sIx items.size items.size hi - sIx items.size 0 lo) == items.size) = true then _ else _) _ _ s
  rw [if_neg hno, pick_gen]
  first
    | exact wpAny_bind (m := Builtin.Tuple.tupleExact _) (wpAny_newObj_type (wpAny_pure ⟨_, rfl, wpAny_pure h⟩) htake)
    | exact wpAny_bind (m := Builtin.Tuple.tupleExact _) (wpAny_newObj_type (wpAny_bind (wpAny_pure (wpAny_pure ⟨_, rfl, wpAny_pure h⟩))) htake)
    | exact wpAny_bind (wpAny_bind (m := Builtin.Tuple.tupleExact _) (wpAny_newObj_type (wpAny_pure (wpAny_pure ⟨_, rfl, wpAny_pure h⟩)) htake))
    | exact wpAny_bind (wpAny_bind (m := Builtin.Tuple.tupleExact _) (wpAny_newObj_type (wpAny_pure ⟨_, rfl, wpAny_pure h⟩) htake))
end
end HT

namespace L2
open PySem PySem.Spec PyProof.Rows

/-! ### the parts of a slice -/
abbrev TO := St → Hp → (Option Int → Hp → Prop) → Prop
/-- a slice's part (left out, or an int) -/
def PO (X : Cx) (e : Option Expr) (t : TO) : Prop :=
  ∀ (pins : List (Addr × Obj)) (s : Shared) (σ : St) (H : Hp) (Q : Option Int → Hp → Prop), Inv X pins σ H s → t σ H Q →
    wpAny (model X.prog X.w) X.A (evalPart e X.env) (fun u s' => ∃ o H', Inv X pins σ H' s' ∧ IsPart u o ∧ Q o H') X.xe s
def tNoPart : TO := fun _ H Q => Q none H
def tPart (t : TE) : TO := fun σ H Q => t σ H fun x H1 => ∃ i, x = .int i ∧ Q (some i) H1

theorem intsAre_of {ns : List Int} : ∀ {us : List Value}, Vals (ns.map V.int) us → IntsAre us ns := by
  induction ns with
  | nil => intro us r; rw [List.map_nil] at r; cases r; exact .nil
  | cons n ns ih =>
    intro us r
    rw [List.map_cons] at r
    cases r with
    | cons r1 r2 =>
      obtain ⟨t, e⟩ := r1
      subst e
      exact .cons n t (ih r2)

section
variable {X : Cx} {e : Expr} {te : TE} {lo hi : Option Expr} {tl th : TO} {pos p2 : Pos}

theorem po_none : PO X none tNoPart := by
  intro pins s σ H Q I h
  rw [evalPart_none]
  exact wpAny_pure ⟨none, H, I, .none, h⟩
theorem po_some (h : PE X e te) : PO X (some e) (tPart te) := by
  intro pins s σ H Q I hw
  rw [evalPart_some]
  refine thn (h pins s σ H _ I hw) fun u s1 ⟨x, H1, I1, r1, q1⟩ => ?_
  obtain ⟨i, rfl, q⟩ := q1
  obtain ⟨t, rfl⟩ := r1
  exact ⟨some i, H1, I1, .int i t, q⟩

/-- what a slice of a value is, by values: the slice object stands at sl -/
def SlR (X : Cx) (r : V → Option Int → Option Int → Hp → VK → Prop) : Prop :=
  ∀ (pins : List (Addr × Obj)) (s : Shared) (σ : St) (H : Hp) (x : V) (v vl vu : Value) (lo hi : Option Int) (sl : Addr) (Q : VK), Inv X pins σ H s → RelV x v → s.heap.IsSliceOf sl vl vu .none → IsPart vl lo → IsPart vu hi → r x lo hi H Q →
    ∃ T id, typeLookup (.type T) "__getitem__" = pure (some (.builtin id)) ∧ s.TypeIs v T ∧ wpAny (model X.prog X.w) X.A (getItem v (.ref sl)) (EP X pins σ Q) X.xe s
theorem SlR.or {r r' : V → Option Int → Option Int → Hp → VK → Prop} (h : SlR X r) (h' : SlR X r') : SlR X (fun x lo hi H Q => r x lo hi H Q ∨ r' x lo hi H Q) := by
  intro pins s σ H x v vl vu lo hi sl Q I rx hs pl pu q
  rcases q with q | q
  · exact h pins s σ H x v vl vu lo hi sl Q I rx hs pl pu q
  · exact h' pins s σ H x v vl vu lo hi sl Q I rx hs pl pu q
def tSl (r : V → Option Int → Option Int → Hp → VK → Prop) (te : TE) (tl th : TO) : TE := fun σ H Q => te σ H fun x H1 => tl σ H1 fun l H2 => th σ H2 fun u H3 => r x l u H3 Q
/-- a[lo:hi], any a -/
theorem pe_slice {r : V → Option Int → Option Int → Hp → VK → Prop} (hr : SlR X r) (he : PE X e te) (hl : PO X lo tl) (hu : PO X hi th) : PE X (.Subscript e (.Slice lo hi none p2) pos) (tSl r te tl th) := by
  intro pins s σ H Q I h
  refine Subscript_ (thn (he pins s σ H _ I h) fun v s1 ⟨x, H1, I1, r1, q1⟩ => ?_)
  refine wpAny_Slice (thn (hl pins s1 σ H1 _ I1 q1) fun vl s2 ⟨l, H2, I2, pl, q2⟩ => thn (hu pins s2 σ H2 _ I2 q2) fun vu s3 ⟨u, H3, I3, pu, q3⟩ => ?_)
  rw [evalPart_none]
  refine wpAny_pure ?_
  have I4 : Inv X pins σ H3 { s3 with heap := s3.heap.push { cls := .type "slice", data := .fields #[vl, vu, .none] } } := I3.kept (t' := s3.toks) fun b ob q => Heap.get?_push_of_some _ q
  obtain ⟨T, id, hT, ht, hg⟩ := hr pins { s3 with heap := s3.heap.push { cls := .type "slice", data := .fields #[vl, vu, .none] } } σ H3 x v vl vu l u s3.heap.objs.size Q I4 r1 (Heap.IsSliceOf.new ..) pl pu q3
  show wpAny (model X.prog X.w) X.A (subscriptTail e (.Slice lo hi none p2) v (.ref s3.heap.objs.size)) (EP X pins σ Q) X.xe { s3 with heap := s3.heap.push { cls := .type "slice", data := .fields #[vl, vu, .none] } }
  exact tail_any (ops := [.ref s3.heap.objs.size, v]) ht hT hg (by with_unfolding_all rfl)

/-- the items of xs[lo:hi] -/
def cutV (xs : List V) (lo hi : Option Int) : List V := (xs.drop (HT.sIx xs.length 0 lo)).take (HT.sIx xs.length xs.length hi - HT.sIx xs.length 0 lo)
theorem cutV_length (xs : List V) (lo hi : Option Int) : (cutV xs lo hi).length ≤ xs.length := by
  unfold cutV
  rw [List.length_take, List.length_drop]
  omega
/-- t[lo:hi], not the whole of it (the whole would be t itself) -/
def rSlT (K : PySem.W.Frag) : V → Option Int → Option Int → Hp → VK → Prop := fun x lo hi H Q => ∃ a xs, x = .ref a ∧ SqT K H a xs ∧
  ¬ (HT.sIx xs.length 0 lo = 0 ∧ HT.sIx xs.length xs.length hi = xs.length) ∧ ∀ p, H p = none → Q (.ref p) (upd H p (.tup (cutV xs lo hi)))
theorem sl_tup : SlR X (rSlT X.K) := by
  intro pins s σ H x v vl vu lo hi sl Q I rx hs pl pu h
  obtain ⟨a, xs, rfl, hx, hw, q⟩ := h
  cases rx
  obtain ⟨its, r, ht, hz⟩ := I.tuple hx
  have hlen : its.toArray.size = xs.length := by rw [List.size_toArray]; exact r.length.symm
  refine ⟨"tuple", _, PyProof.Rows.slot_tuple_getitem.lookup, ht.typeIs, ?_⟩
  refine HT.getItem_tuple_cut ht hs pl pu (by rw [hlen]; exact hw) ?_ (by rw [hlen]; exact hz)
  rw [hlen]
  refine ⟨.ref s.heap.objs.size, _, I.laid (t' := s.toks) (o := .tup (cutV xs lo hi)) (fun b ob q => Heap.get?_push_of_some _ q) (Nat.le_refl _) ?_, rfl, q _ (I.hok.fresh (Nat.le_refl _))⟩
  exact ⟨Nat.le_trans (cutV_length xs lo hi) hz, _, (r.drop (HT.sIx xs.length 0 lo)).take (HT.sIx xs.length xs.length hi - HT.sIx xs.length 0 lo), IsTup.new _ _⟩

/-! ### t < u, t + u -/
def rLtT (K : PySem.W.Frag) : R2 := fun x y H Q => ∃ a b ns ms, x = .ref a ∧ y = .ref b ∧ SqT K H a (ns.map V.int) ∧ SqT K H b (ms.map V.int) ∧ Q (.bl (HT.lexLt ns ms)) H
theorem op_ltT (hu : X.A.units < cLine) : OpR X (compareOp .Lt) (rLtT X.K) := by
  intro pins s σ H x y v u Q I rx ry h
  obtain ⟨a, b, ns, ms, rfl, rfl, ha, hb, q⟩ := h
  cases rx
  cases ry
  obtain ⟨its, r1, p1, _⟩ := I.tuple ha
  obtain ⟨its2, r2, p2, _⟩ := I.tuple hb
  have i1 : IntsAre its.toArray.toList ns := intsAre_of r1
  have i2 : IntsAre its2.toArray.toList ms := intsAre_of r2
  exact HT.lt_tupInts p1 p2 i1 i2 hu ⟨.bl (HT.lexLt ns ms), H, I, rfl, q⟩
/-- t + u, t not empty: u empty gives t itself -/
def rCatT (K : PySem.W.Frag) : R2 := fun x y H Q => ∃ a b xs ys, x = .ref a ∧ y = .ref b ∧ SqT K H a xs ∧ SqT K H b ys ∧ xs ≠ [] ∧ xs.length + ys.length ≤ sizeLine ∧
  (ys = [] → Q (.ref a) H) ∧ (ys ≠ [] → ∀ p, H p = none → Q (.ref p) (upd H p (.tup (xs ++ ys))))
theorem Vals.nil_iff {xs : List V} {us : List Value} (r : Vals xs us) : us = [] ↔ xs = [] := by
  cases r with
  | nil => simp
  | cons _ _ => simp
theorem op_catT : OpR X (binaryOp .Add) (rCatT X.K) := by
  intro pins s σ H x y v u Q I rx ry h
  obtain ⟨a, b, xs, ys, rfl, rfl, ha, hb, hx, hz, q1, q2⟩ := h
  cases rx
  cases ry
  obtain ⟨its, r1, p1, _⟩ := I.tuple ha
  obtain ⟨its2, r2, p2, _⟩ := I.tuple hb
  refine HT.cat_tup p1 p2 (fun z => hx (r1.nil_iff.mp z)) (fun z => ⟨.ref a, H, I, rfl, q1 (r2.nil_iff.mp z)⟩) (fun z => ?_) (by rw [← r1.length, ← r2.length]; exact hz)
  refine ⟨.ref s.heap.objs.size, _, I.laid (t' := s.toks) (o := .tup (xs ++ ys)) (fun b ob q => Heap.get?_push_of_some _ q) (Nat.le_refl _) ?_, rfl, q2 (fun w => z (r2.nil_iff.mpr w)) _ (I.hok.fresh (Nat.le_refl _))⟩
  exact ⟨by rw [List.length_append]; exact hz, _, r1.append r2, IsTup.new _ _⟩
/-- tuple(t) -/
theorem call_tupleT : CallR X (.type "tuple") (fun xs H Q => ∃ a ys, xs = [.ref a] ∧ SqT X.K H a ys ∧ Q (.ref a) H) := by
  intro pins s σ H xs us Q I r h
  obtain ⟨a, ys, rfl, ha, q⟩ := h
  obtain ⟨u, rfl, ru⟩ := vals1 r
  cases ru
  obtain ⟨its, _, p1, _⟩ := I.tuple ha
  exact call_tuple_same (items := its.toArray) p1 ⟨.ref a, H, I, rfl, q⟩
end
end L2

namespace L2
open PySem PySem.Spec PyProof.Rows

/-! ### places -/
/-- the place that an index of any sign means -/
def ixN (n : Nat) (i : Int) : Option Nat := if 0 ≤ i then (if i < n then some i.toNat else none) else if -(n : Int) ≤ i then some (i + n).toNat else none
def atI {α : Type} (xs : List α) (i : Int) : Option α := (ixN xs.length i).bind fun j => xs[j]?
theorem ixN_seq {n : Nat} {i : Int} {j : Nat} (h : ixN n i = some j) : seqIndex? i n = some j ∧ j < n ∧ -(n : Int) ≤ i ∧ i < n := by
  unfold ixN at h
  by_cases h0 : 0 ≤ i
  · rw [if_pos h0] at h
    by_cases h1 : i < n
    · rw [if_pos h1] at h
      have e : i.toNat = j := Option.some.inj h
      exact ⟨by rw [seqIndex_of h0 h1, e], by omega, by omega, h1⟩
    · rw [if_neg h1] at h; cases h
  · rw [if_neg h0] at h
    by_cases h1 : -(n : Int) ≤ i
    · rw [if_pos h1] at h
      have e : (i + n).toNat = j := Option.some.inj h
      exact ⟨by rw [seqIndex_neg (by omega) h1, e], by omega, h1, by omega⟩
    · rw [if_neg h1] at h; cases h
theorem atI_get {α : Type} {xs : List α} {i : Int} {v : α} (h : atI xs i = some v) : ∃ j, seqIndex? i xs.length = some j ∧ xs[j]? = some v ∧ j < xs.length ∧ -(xs.length : Int) ≤ i ∧ i < xs.length := by
  unfold atI at h
  cases e : ixN xs.length i with
  | none => rw [e] at h; cases h
  | some j =>
    rw [e] at h
    obtain ⟨h1, h2, h3, h4⟩ := ixN_seq e
    exact ⟨j, h1, h, h2, h3, h4⟩
theorem atI_nat {α : Type} {xs : List α} {j : Nat} {v : α} (h : xs[j]? = some v) : atI xs (j : Int) = some v := by
  have hj : j < xs.length := (List.getElem?_eq_some_iff.mp h).1
  have e : ixN xs.length (j : Int) = some j := by
    unfold ixN
    rw [if_pos (by omega), if_pos (by omega)]; simp
  unfold atI; rw [e]; exact h
theorem atI_last {α : Type} (xs : List α) (v : α) : atI (xs ++ [v]) (-1) = some v := by
  have hl : (xs ++ [v]).length = xs.length + 1 := by simp
  have e : ixN (xs ++ [v]).length (-1) = some xs.length := by
    unfold ixN
    rw [hl, if_neg (by decide), if_pos (by omega)]
    congr 1
    omega
  unfold atI
  rw [e]
  show (xs ++ [v])[xs.length]? = some v
  simp

/-! ### what may be subscripted -/
/-- what stands as an index of a plain subscript -/
def PlainIx (b : Expr) : Prop := ∀ o i, subscripted b false o i = operate [o, i] (getItem o i)
/-- a subscript by values -/
def IxR (X : Cx) (r : R2) : Prop :=
  ∀ (value slice : Expr) (pins : List (Addr × Obj)) (s : Shared) (σ : St) (H : Hp) (x y : V) (v u : Value) (Q : VK), Inv X pins σ H s → RelV x v → RelV y u → r x y H Q →
    subscripted slice false v u = operate [v, u] (getItem v u) → wpAny (model X.prog X.w) X.A (subscriptTail value slice v u) (EP X pins σ Q) X.xe s
/-- a call of a builtin's method by values: the receiver, the arguments -/
def MtR (X : Cx) (id : String) (r : V → List V → Hp → VK → Prop) : Prop :=
  ∀ (pins : List (Addr × Obj)) (s : Shared) (σ : St) (H : Hp) (x : V) (xs : List V) (v : Value) (us : List Value) (Q : VK), Inv X pins σ H s → RelV x v → Vals xs us → r x xs H Q →
    wpAny (model X.prog X.w) X.A (call (.builtin id) (v :: us)) (EP X pins σ Q) X.xe s
section
variable {X : Cx} {a b : Expr} {ta tb : TE} {pos : Pos}
theorem IxR.or {r r' : R2} (h : IxR X r) (h' : IxR X r') : IxR X (fun x y H Q => r x y H Q ∨ r' x y H Q) := by
  intro value slice pins s σ H x y v u Q I rx ry q hs
  rcases q with q | q
  · exact h value slice pins s σ H x y v u Q I rx ry q hs
  · exact h' value slice pins s σ H x y v u Q I rx ry q hs
theorem MtR.or {id : String} {r r' : V → List V → Hp → VK → Prop} (h : MtR X id r) (h' : MtR X id r') : MtR X id (fun x xs H Q => r x xs H Q ∨ r' x xs H Q) := by
  intro pins s σ H x xs v us Q I rx rs q
  rcases q with q | q
  · exact h pins s σ H x xs v us Q I rx rs q
  · exact h' pins s σ H x xs v us Q I rx rs q
/-- a[b] -/
theorem pe_ix {r : R2} (hr : IxR X r) (ha : PE X a ta) (hb : PE X b tb) (hs : PlainIx b) : PE X (.Subscript a b pos) (tOp r ta tb) := by
  intro pins s σ H Q I h
  exact Subscript_ (binT ha hb I h fun v u s2 x y H2 I2 rx ry q => hr a b pins s2 σ H2 x y v u Q I2 rx ry q (hs _ _))

def rIxL (K : PySem.W.Frag) : R2 := fun x y H Q => ∃ p xs i v, x = .ref p ∧ y = .int i ∧ SqL K H p xs ∧ atI xs i = some v ∧ Q v H
def rIxT (K : PySem.W.Frag) : R2 := fun x y H Q => ∃ p xs i v, x = .ref p ∧ y = .int i ∧ SqT K H p xs ∧ atI xs i = some v ∧ Q v H
def rIxS : R2 := fun x y H Q => ∃ z i c, x = .str z ∧ y = .int i ∧ z.length ≤ sizeLine ∧ atI z.cps.toList i = some c ∧ Q (.str ⟨#[c]⟩) H
theorem ix_list : IxR X (rIxL X.K) := by
  intro value slice pins s σ H x y v u Q I rx ry h hs
  obtain ⟨p, xs, i, z, rfl, rfl, hq, he, q⟩ := h
  cases rx
  obtain ⟨t, rfl⟩ := ry
  obtain ⟨its, r, pl, hz⟩ := I.list hq
  obtain ⟨j, h1, h2, h3, h4, h5⟩ := atI_get he
  obtain ⟨w, ew, rw'⟩ := r.get h2
  have hl := r.length
  have hn := line63
  have fin : EP X pins σ Q w s := ⟨z, H, I, rw', q⟩
  by_cases h0 : 0 ≤ i
  · have hj : i.toNat = j := by
      rw [seqIndex_of h0 h5] at h1
      exact Option.some.inj h1
    exact item_listR pl.isList h0 (by omega) (by rw [hj]; simpa using ew) fin hs
  · have hj : (i + (its.toArray.size : Int)).toNat = j := by
      rw [seqIndex_neg (by omega) h4] at h1
      rw [List.size_toArray, ← hl]
      exact Option.some.inj h1
    exact subscriptTail_builtinR (x := w) pl.isList.typeIs slot_list_getitem.lookup
      (wpAny_getItem_list_neg (Q := fun r s' => r = w ∧ EP X pins σ Q r s') pl.isList (by omega) (by rw [List.size_toArray] <;> omega) (by omega) (by rw [hj]; simpa using ew) ⟨rfl, fin⟩) hs
theorem ix_tup : IxR X (rIxT X.K) := by
  intro value slice pins s σ H x y v u Q I rx ry h hs
  obtain ⟨p, xs, i, z, rfl, rfl, hq, he, q⟩ := h
  cases rx
  obtain ⟨t, rfl⟩ := ry
  obtain ⟨its, r, pl, hz⟩ := I.tuple hq
  obtain ⟨j, h1, h2, h3, h4, h5⟩ := atI_get he
  obtain ⟨w, ew, rw'⟩ := r.get h2
  have hl := r.length
  have hn := line63
  have fin : EP X pins σ Q w s := ⟨z, H, I, rw', q⟩
  exact subscriptTail_builtinR (x := w) pl.typeIs slot_tuple_getitem.lookup
    (getItem_tuple (j := j) (Q := fun r s' => r = w ∧ EP X pins σ Q r s') pl (by omega) (by omega) (by rw [List.size_toArray, ← hl]; exact h1) (by simpa using ew) ⟨rfl, fin⟩) hs
theorem ix_str : IxR X rIxS := by
  intro value slice pins s σ H x y v u Q I rx ry h hs
  obtain ⟨z, i, c, rfl, rfl, hz, he, q⟩ := h
  obtain ⟨t, rfl⟩ := rx
  obtain ⟨t', rfl⟩ := ry
  obtain ⟨j, h1, h2, h3, h4, h5⟩ := atI_get he
  have hl : z.cps.toList.length = z.length := by simp [Str.length]
  rw [hl] at h1 h4 h5
  have hn := line63
  exact tail_any (typeIs_str s z t) slot_str_getitem.lookup (getItem_str (c := c) (by
    have e1 : decide (i < -(2 ^ 63 : Int)) = false := decide_eq_false (by omega)
    have e2 : decide (i ≥ 2 ^ 63) = false := decide_eq_false (by omega)
    rw [e1, e2, Bool.or_false]) (by rw [h1]; simpa using h2) ⟨.str ⟨#[c]⟩, H, I.tok _, ⟨_, rfl⟩, q⟩) hs
/-- list, tuple or str -/
def rIx (K : PySem.W.Frag) : R2 := fun x y H Q => rIxL K x y H Q ∨ rIxT K x y H Q ∨ rIxS x y H Q
theorem ix_seq : IxR X (rIx X.K) := ix_list.or (ix_tup.or ix_str)

/-! ### xs[i] = v, any sign -/
/-- the list's object behind a store -/
theorem mapSeq_set (its : List Value) (n j : Nat) (u : Value) : Obj.mapSeq (·.setIfInBounds j u) { cls := .type "list", data := .seq its.toArray n } = { cls := .type "list", data := .seq (its.set j u).toArray n } := by
  simp [Obj.mapSeq]
theorem Inv.lst {pins : List (Addr × Obj)} {σ : St} {H : Hp} {s : Shared} {p : Addr} {xs : List V} (I : Inv X pins σ H s) (h : H p = some (.lst xs)) :
    ∃ (its : List Value) (n : Nat), Vals xs its ∧ s.heap.get? p = some { cls := .type "list", data := .seq its.toArray n } ∧ xs.length ≤ sizeLine := by
  obtain ⟨z, its, n, r, e⟩ := I.hok p _ h
  exact ⟨its, n, r, e, z⟩
/-- the list at p is written by an update of its object -/
theorem Inv.lstUpd {pins : List (Addr × Obj)} {σ : St} {H : Hp} {s : Shared} {p : Addr} {xs ys : List V} {its its' : List Value} {n n' : Nat} {f : Obj → Obj} (I : Inv X pins σ H s) (h : H p = some (.lst xs))
    (ho : s.heap.get? p = some { cls := .type "list", data := .seq its.toArray n }) (hf : f { cls := .type "list", data := .seq its.toArray n } = { cls := .type "list", data := .seq its'.toArray n' }) (r : Vals ys its') (hz : ys.length ≤ sizeLine) (t : Nat) :
    Inv X pins σ (upd H p (.lst ys)) { s with heap := s.heap.update p f, toks := t } := by
  have e : (s.heap.update p f).get? p = some { cls := .type "list", data := .seq its'.toArray n' } := by
    rw [Heap.get?_update_self f ho (by rw [hf] <;> rfl), hf]
  refine I.write (x := p) (e := p) (by rw [h]; trivial) (.inl rfl) (fun b u hb q => (Heap.get?_update_other _ _ (Ne.symm hb)).trans q) ⟨_, e⟩ ?_
  exact ⟨hz, its', n', r, e⟩
def rSetL : V → V → V → Hp → (Hp → Prop) → Prop := fun o i v H Q => ∃ p xs k j, o = .ref p ∧ i = .int k ∧ H p = some (.lst xs) ∧ ixN xs.length k = some j ∧ Q (upd H p (.lst (xs.set j v)))
theorem set_list : PSet X rSetL := by
  intro pins s σ H o i v ov iv u Q I ro ri rv h
  obtain ⟨p, xs, k, j, rfl, rfl, hp, hj, q⟩ := h
  cases ro
  obtain ⟨t, rfl⟩ := ri
  obtain ⟨its, n, r, ho, hz⟩ := I.lst hp
  obtain ⟨h1, h2, h3, h4⟩ := ixN_seq hj
  have hl := r.length
  have hn := line63
  have I' : Inv X pins σ (upd H p (.lst (xs.set j v))) { s with heap := s.heap.update p (Obj.mapSeq (·.setIfInBounds j u)) } :=
    I.lstUpd hp ho (mapSeq_set its n j u) (r.set rv j) (by rw [List.length_set]; exact hz) s.toks
  by_cases h0 : 0 ≤ k
  · have hk : k.toNat = j := by
      rw [seqIndex_of h0 h4] at h1
      exact Option.some.inj h1
    exact PySem.W.ki_setAt ho h0 (by omega) (by rw [List.size_toArray, ← hl]; exact h4) (by rw [hk]; exact ⟨_, I', q⟩)
  · have hk : (k + (its.toArray.size : Int)).toNat = j := by
      rw [seqIndex_neg (by omega) h3] at h1
      rw [List.size_toArray, ← hl]
      exact Option.some.inj h1
    exact PySem.W.ki_setBack ho (by omega) (by rw [List.size_toArray, ← hl]; exact h3) (by omega) (by rw [hk]; exact ⟨_, I', q⟩)

/-! ### slices -/
theorem slice_bounds (lo hi : Option Int) (n : Nat) : (sliceBounds lo hi none n).1 = ((HT.sIx n 0 lo : Nat) : Int) ∧ (sliceBounds lo hi none n).2.1 = ((HT.sIx n n hi : Nat) : Int) ∧ (sliceBounds lo hi none n).2.2 = 1 := by
  refine ⟨?_, ?_, rfl⟩
  · cases lo with
    | none => simp [sliceBounds, HT.sIx]
    | some i =>
      simp only [sliceBounds, HT.sIx, Option.getD_none, show (1 : Int) > 0 by decide, if_true]
      by_cases h : i < 0
      · simp only [h, if_true] <;> omega
      · simp only [h, if_false] <;> omega
  · cases hi with
    | none => simp [sliceBounds, HT.sIx]
    | some i =>
      simp only [sliceBounds, HT.sIx, Option.getD_none, show (1 : Int) > 0 by decide, if_true]
      by_cases h : i < 0
      · simp only [h, if_true] <;> omega
      · simp only [h, if_false] <;> omega
theorem slicePick_cut (its : List Value) (lo hi : Option Int) : slicePick its.toArray lo hi none = ((its.drop (HT.sIx its.length 0 lo)).take (HT.sIx its.length its.length hi - HT.sIx its.length 0 lo)).toArray := by
  obtain ⟨h1, h2, h3⟩ := slice_bounds lo hi its.toArray.size
  unfold slicePick
  rw [h1, h2, h3]
  simp only [sliceRange_one, pick_run, List.size_toArray] <;> rfl
/-- xs[lo:hi] of a list: a new list -/
def rSlL (K : PySem.W.Frag) : V → Option Int → Option Int → Hp → VK → Prop := fun x lo hi H Q => ∃ a xs, x = .ref a ∧ SqL K H a xs ∧ ∀ p, H p = none → Q (.ref p) (upd H p (.lst (cutV xs lo hi)))
theorem sl_list : SlR X (rSlL X.K) := by
  intro pins s σ H x v vl vu lo hi sl Q I rx hs pl pu h
  obtain ⟨a, xs, rfl, hx, q⟩ := h
  cases rx
  obtain ⟨its, r, ht, hz⟩ := I.list hx
  have hlen := r.length
  refine ⟨"list", _, slot_list_getitem.lookup, ht.isList.typeIs, ?_⟩
  refine wpAny_getItem_list_slice ht.isList hs pl pu .none (by simp) ?_ (by rw [List.size_toArray] <;> omega)
  rw [slicePick_cut, ← hlen]
  refine ⟨.ref s.heap.objs.size, _, I.laid (t' := s.toks) (o := .lst (cutV xs lo hi)) (fun b ob q => Heap.get?_push_of_some _ q) (Nat.le_refl _) ?_, rfl, q _ (I.hok.fresh (Nat.le_refl _))⟩
  exact ⟨Nat.le_trans (cutV_length xs lo hi) hz, _, 0, (r.drop (HT.sIx xs.length 0 lo)).take (HT.sIx xs.length xs.length hi - HT.sIx xs.length 0 lo), Heap.get?_push_size _ rfl⟩

/-! ### in, not in: flat items -/
def flatV : V → Bool
  | .non => true
  | .bl _ => true
  | .int _ => true
  | .str _ => true
  | _ => false
/-- == of flat values -/
def eqV : V → V → Bool
  | .non, .non => true
  | .bl a, .bl b => a == b
  | .bl a, .int b => (if a then 1 else 0) == b
  | .int a, .bl b => a == (if b then 1 else 0)
  | .int a, .int b => a == b
  | .str a, .str b => a == b
  | _, _ => false
theorem eqAt_V {A : Around} {s : Shared} {y x : V} {u v : Value} (ry : RelV y u) (rx : RelV x v) (fy : flatV y = true) (fx : flatV x = true) : SeqAt.EqAt A s u v (eqV y x) := by
  cases y with
  | non =>
    cases ry
    cases x with
    | non => cases rx; exact SeqAt.EqAt.same _
    | bl b => cases rx; exact SeqAt.EqAt.none_bool b
    | int b => obtain ⟨t, rfl⟩ := rx; exact SeqAt.EqAt.none_int b t
    | str b => obtain ⟨t, rfl⟩ := rx; exact SeqAt.EqAt.none_str b t
    | _ => exact absurd (show false = true from fx) Bool.false_ne_true
  | bl a =>
    cases ry
    cases x with
    | non => cases rx; exact SeqAt.EqAt.bool_none a
    | bl b => cases rx; exact SeqAt.EqAt.bool_bool a b
    | int b => obtain ⟨t, rfl⟩ := rx; exact SeqAt.EqAt.bool_int a b t
    | str b => obtain ⟨t, rfl⟩ := rx; exact SeqAt.EqAt.bool_str a b t
    | _ => exact absurd (show false = true from fx) Bool.false_ne_true
  | int a =>
    obtain ⟨t', rfl⟩ := ry
    cases x with
    | non => cases rx; exact SeqAt.EqAt.int_none a t'
    | bl b => cases rx; exact SeqAt.EqAt.int_bool a t' b
    | int b => obtain ⟨t, rfl⟩ := rx; exact SeqAt.EqAt.int_int a t' b t
    | str b => obtain ⟨t, rfl⟩ := rx; exact SeqAt.EqAt.int_str a t' b t
    | _ => exact absurd (show false = true from fx) Bool.false_ne_true
  | str a =>
    obtain ⟨t', rfl⟩ := ry
    cases x with
    | non => cases rx; exact SeqAt.EqAt.str_none a t'
    | bl b => cases rx; exact SeqAt.EqAt.str_bool a t' b
    | int b => obtain ⟨t, rfl⟩ := rx; exact SeqAt.EqAt.str_int a t' b t
    | str b => obtain ⟨t, rfl⟩ := rx; exact SeqAt.EqAt.str_str a t' b t
    | _ => exact absurd (show false = true from fx) Bool.false_ne_true
  | _ => exact absurd (show false = true from fy) Bool.false_ne_true
/-- the items' answers, read off the values (a value's own answer does not lean on its token) -/
def eqU (x : V) (u : Value) : Bool := match u with
  | .none => eqV .non x
  | .bool b => eqV (.bl b) x
  | .int i _ => eqV (.int i) x
  | .str z _ => eqV (.str z) x
  | _ => false
theorem eqU_of {x y : V} {u : Value} (r : RelV y u) (f : flatV y = true) : eqU x u = eqV y x := by
  cases y with
  | non => cases r; rfl
  | bl b => cases r; rfl
  | int i => obtain ⟨t, rfl⟩ := r; rfl
  | str z => obtain ⟨t, rfl⟩ := r; rfl
  | _ => exact absurd (show false = true from f) Bool.false_ne_true
theorem any_eqU {x : V} : ∀ {xs : List V} {us : List Value}, Vals xs us → xs.all flatV = true → us.any (eqU x) = xs.any fun y => eqV y x
  | _, _, .nil, _ => rfl
  | y :: xs, u :: us, .cons r t, f => by
    rw [List.all_cons, Bool.and_eq_true] at f
    rw [List.any_cons, List.any_cons, eqU_of r f.1, any_eqU t f.2]
theorem mem_eqAt {A : Around} {s : Shared} {x : V} {v : Value} (rx : RelV x v) (fx : flatV x = true) : ∀ {xs : List V} {us : List Value}, Vals xs us → xs.all flatV = true → ∀ u ∈ us, SeqAt.EqAt A s u v (eqU x u)
  | _, _, .nil, _ => fun u hu => by cases hu
  | y :: xs, u :: us, .cons r t, f => fun u' hu => by
    rw [List.all_cons, Bool.and_eq_true] at f
    rcases List.mem_cons.mp hu with rfl | hu
    · rw [eqU_of r f.1]; exact eqAt_V r rx f.1 fx
    · exact mem_eqAt rx fx t f.2 u' hu
def inV (x : V) (xs : List V) : Bool := xs.any fun y => eqV y x
/-- x in a list or tuple of flat items -/
def rIn (K : PySem.W.Frag) (neg : Bool) : R2 := fun x y H Q => ∃ p xs, y = .ref p ∧ (SqL K H p xs ∨ SqT K H p xs) ∧ flatV x = true ∧ xs.all flatV = true ∧ Q (.bl (if neg then !inV x xs else inV x xs)) H
theorem op_in_seq : OpR X (compareOp .In) (rIn X.K false) := by
  intro pins s σ H x y v u Q I rx ry h
  obtain ⟨p, xs, rfl, hq, fx, fs, q⟩ := h
  cases ry
  rcases hq with hq | hq
  · obtain ⟨its, r, pl, hz⟩ := I.list hq
    refine SeqAt.in_listAt (eqU x) pl.isList (fun w hw => mem_eqAt rx fx r fs w (by simpa using hw)) ⟨.bl _, H, I, rfl, ?_⟩
    rw [show its.toArray.any (eqU x) = its.any (eqU x) by simp, any_eqU r fs]
    exact q
  · obtain ⟨its, r, pl, hz⟩ := I.tuple hq
    refine SeqAt.in_tupleAt (eqU x) pl (fun w hw => mem_eqAt rx fx r fs w (by simpa using hw)) ⟨.bl _, H, I, rfl, ?_⟩
    rw [show its.toArray.any (eqU x) = its.any (eqU x) by simp, any_eqU r fs]
    exact q
theorem op_notIn_seq : OpR X (compareOp .NotIn) (rIn X.K true) := by
  intro pins s σ H x y v u Q I rx ry h
  obtain ⟨p, xs, rfl, hq, fx, fs, q⟩ := h
  cases ry
  rcases hq with hq | hq
  · obtain ⟨its, r, pl, hz⟩ := I.list hq
    refine SeqAt.notIn_listAt (eqU x) pl.isList (fun w hw => mem_eqAt rx fx r fs w (by simpa using hw)) ⟨.bl _, H, I, rfl, ?_⟩
    rw [show its.toArray.any (eqU x) = its.any (eqU x) by simp, any_eqU r fs]
    exact q
  · obtain ⟨its, r, pl, hz⟩ := I.tuple hq
    refine SeqAt.notIn_tupleAt (eqU x) pl (fun w hw => mem_eqAt rx fx r fs w (by simpa using hw)) ⟨.bl _, H, I, rfl, ?_⟩
    rw [show its.toArray.any (eqU x) = its.any (eqU x) by simp, any_eqU r fs]
    exact q
theorem op_notIn_str : OpR X (compareOp .NotIn) (fun x y H Q => ∃ i j, x = .str i ∧ y = .str j ∧ Q (.bl (!(!(Builtin.Str.occurrences j i 0 j.length 1).isEmpty))) H) := by
  intro pins s σ H x y v u Q I rx ry h
  obtain ⟨i, j, rfl, rfl, q⟩ := h
  obtain ⟨t, rfl⟩ := rx
  obtain ⟨t', rfl⟩ := ry
  exact notIn_str ⟨.bl _, H, I, rfl, q⟩

/-! ### len, list(x), tuple(x) of any list or tuple that is read -/
theorem call_len_seq : CallR X (.builtin "len") (fun xs H Q => ∃ p ys, xs = [.ref p] ∧ (SqL X.K H p ys ∨ SqT X.K H p ys) ∧ Q (.int ys.length) H) := by
  intro pins s σ H xs us Q I r h
  obtain ⟨p, ys, rfl, hq, q⟩ := h
  obtain ⟨u, rfl, rx⟩ := vals1 r
  cases rx
  have hn := line63
  rcases hq with hq | hq
  · obtain ⟨its, r', pl, hz⟩ := I.list hq
    have hlen := r'.length
    exact Calls.call_len_list pl.isList (by simp only [List.size_toArray] <;> omega) ⟨.int ys.length, H, I.tok _, ⟨s.toks + 1, by rw [List.size_toArray, hlen]⟩, q⟩
  · obtain ⟨its, r', pl, hz⟩ := I.tuple hq
    have hlen := r'.length
    exact len_tuple pl (by simp only [List.size_toArray] <;> omega) ⟨.int ys.length, H, I.tok _, ⟨s.toks + 1, by rw [List.size_toArray, hlen]⟩, q⟩
theorem call_len_str : CallR X (.builtin "len") (fun xs H Q => ∃ z, xs = [.str z] ∧ z.length ≤ sizeLine ∧ Q (.int z.length) H) := by
  intro pins s σ H xs us Q I r h
  obtain ⟨z, rfl, hz, q⟩ := h
  obtain ⟨u, rfl, t, rfl⟩ := vals1 r
  have hn := line63
  exact len_str (by omega) ⟨.int z.length, H, I.tok _, ⟨_, rfl⟩, q⟩
theorem CallR.or {f : Value} {r r' : List V → Hp → VK → Prop} (h : CallR X f r) (h' : CallR X f r') : CallR X f (fun xs H Q => r xs H Q ∨ r' xs H Q) := by
  intro pins s σ H xs us Q I rs q
  rcases q with q | q
  · exact h pins s σ H xs us Q I rs q
  · exact h' pins s σ H xs us Q I rs q
theorem call_list_of : CallR X (.type "list") (fun xs H Q => ∃ p ys, xs = [.ref p] ∧ (SqL X.K H p ys ∨ SqT X.K H p ys) ∧ ∀ l, H l = none → Q (.ref l) (upd H l (.lst ys))) := by
  intro pins s σ H xs us Q I r h
  obtain ⟨p, ys, rfl, hq, q⟩ := h
  obtain ⟨u, rfl, rx⟩ := vals1 r
  cases rx
  have fin : ∀ (its : List Value), Vals ys its → ys.length ≤ sizeLine → ∀ (h' : Heap) (c' : Nat), (∀ b o', s.heap.get? b = some o' → h'.get? b = some o') →
      h'.get? s.heap.objs.size = some { cls := .type "list", dict := none, data := .seq its.toArray c', slots := #[] } → EP X pins σ Q (.ref s.heap.objs.size) { s with heap := h' } := fun its r' hz h' c' kp e =>
    ⟨.ref s.heap.objs.size, _, I.laid (t' := s.toks) kp (Nat.le_refl _) (show ObjOk X.prog X.w _ h' _ (.lst ys) from ⟨hz, its, c', r', e⟩), rfl, q _ (I.hok.fresh (Nat.le_refl _))⟩
  rcases hq with hq | hq
  · obtain ⟨its, r', pl, hz⟩ := I.list hq
    have hlen := r'.length
    obtain ⟨o, ho, hc, n, hd⟩ := pl.isList
    exact call_list_seq p (.inl rfl) ho hc hd (fun h' c' kp e => fin its r' hz h' c' kp e) (by simp only [List.size_toArray] <;> omega)
  · obtain ⟨its, r', pl, hz⟩ := I.tuple hq
    have hlen := r'.length
    obtain ⟨o, ho, hc, n, hd⟩ := pl
    exact call_list_seq p (.inr rfl) ho hc hd (fun h' c' kp e => fin its r' hz h' c' kp e) (by simp only [List.size_toArray] <;> omega)
theorem call_tuple_of : CallR X (.type "tuple") (fun xs H Q => ∃ p ys, xs = [.ref p] ∧ ((SqL X.K H p ys ∧ ∀ l, H l = none → Q (.ref l) (upd H l (.tup ys))) ∨ (SqT X.K H p ys ∧ Q (.ref p) H))) := by
  intro pins s σ H xs us Q I r h
  obtain ⟨p, ys, rfl, h⟩ := h
  obtain ⟨u, rfl, rx⟩ := vals1 r
  cases rx
  rcases h with ⟨hq, q⟩ | ⟨hq, q⟩
  · obtain ⟨its, r', pl, hz⟩ := I.list hq
    have hlen := r'.length
    refine call_tuple_list pl.isList (fun h' kp => ?_) (by simp only [List.size_toArray] <;> omega)
    have I1 : Inv X pins σ H { s with heap := h' } := I.kept (t' := s.toks) kp
    have I2 : Inv X pins σ (upd H h'.objs.size (.tup ys)) { s with heap := h'.push { cls := .type "tuple", data := .seq its.toArray } } :=
      I1.laid (t' := s.toks) (fun b o e => Heap.get?_push_of_some _ e) (Nat.le_refl _) (show ObjOk X.prog X.w _ _ _ (.tup ys) from ⟨hz, its, r', IsTup.new _ _⟩)
    exact ⟨.ref h'.objs.size, _, I2, rfl, q _ (I1.hok.fresh (Nat.le_refl _))⟩
  · obtain ⟨its, r', pl, hz⟩ := I.tuple hq
    exact call_tuple_same pl ⟨.ref p, H, I, rfl, q⟩

/-! ### the call of a builtin's method: o.m(..) -/
/-- the value is of that builtin type -/
def tyV (K : PySem.W.Frag) (T : String) (x : V) (H : Hp) : Prop := match x with
  | .str _ => T = "str"
  | .int _ => T = "int"
  | .ref p => (T = "list" ∧ ∃ xs, SqL K H p xs) ∨ (T = "tuple" ∧ ∃ o, K.lookup p = some o ∧ o.cls = .type "tuple" ∧ o.dict = none) ∨
      (T = "dict" ∧ ((∃ kvs, H p = some (.dK kvs)) ∨ ∃ kvs, H p = some (.dT kvs))) ∨ (T = "set" ∧ ∃ S n, H p = some (.set S n))
  | _ => False
theorem tyV_is {pins : List (Addr × Obj)} {σ : St} {H : Hp} {s : Shared} {T : String} {x : V} {v : Value} (I : Inv X pins σ H s) (r : RelV x v) (ty : tyV X.K T x H) :
    s.TypeIs v T ∧ ∀ a, v = .ref a → ∃ ob, s.heap.get? a = some ob ∧ ob.dict = none := by
  cases x with
  | str z =>
    obtain ⟨t, rfl⟩ := r
    cases (show T = "str" from ty)
    exact ⟨typeIs_str s z t, fun _ e => nomatch e⟩
  | int i =>
    obtain ⟨t, rfl⟩ := r
    cases (show T = "int" from ty)
    exact ⟨typeIs_int s i t, fun _ e => nomatch e⟩
  | ref p =>
    cases r
    rcases ty with ⟨rfl, xs, hq⟩ | ⟨rfl, o, hk, hc, hd⟩ | ⟨rfl, hk⟩ | ⟨rfl, S, n, hk⟩
    · obtain ⟨its, _, pl, _⟩ := I.list hq
      refine ⟨pl.isList.typeIs, fun a e => ?_⟩
      cases e
      obtain ⟨o, n, e, c, hd, _⟩ := pl
      exact ⟨o, e, hd⟩
    · refine ⟨⟨o, I.kIn p o hk, hc⟩, fun a e => ?_⟩
      cases e
      exact ⟨o, I.kIn _ o hk, hd⟩
    · have z : ∃ o, s.heap.get? p = some o ∧ o.ExactDict := by
        rcases hk with ⟨kvs, hk⟩ | ⟨kvs, hk⟩
        · obtain ⟨_, _, _, _, o, _, _, e, ex, _⟩ := I.hok p _ hk
          exact ⟨o, e, ex⟩
        · obtain ⟨_, _, _, _, o, _, _, e, ex, _⟩ := I.hok p _ hk
          exact ⟨o, e, ex⟩
      obtain ⟨o, e, ex⟩ := z
      refine ⟨⟨o, e, ex.1⟩, fun a e2 => ?_⟩
      cases e2
      exact ⟨o, e, ex.2.1⟩
    · obtain ⟨o, _, _, _, e, ex, _⟩ := I.hok p _ hk
      refine ⟨⟨o, e, ex.1⟩, fun a e2 => ?_⟩
      cases e2
      exact ⟨o, e, ex.2.1⟩
  | _ => exact False.elim ty
def tBM0 (K : PySem.W.Frag) (T : String) (r : V → List V → Hp → VK → Prop) (to : TE) : TE := fun σ H Q => to σ H fun x H1 => tyV K T x H1 ∧ r x [] H1 Q
def tBM (K : PySem.W.Frag) (T : String) (r : V → List V → Hp → VK → Prop) (to : TE) (t : TA) : TE := fun σ H Q => to σ H fun x H1 => tyV K T x H1 ∧ t σ H1 fun xs H2 => r x xs H2 Q
variable {o e : Expr} {es : List Expr} {to : TE} {t : TA} {name : Str} {apos cpos : Pos} {T id : String} {r : V → List V → Hp → VK → Prop}
theorem pe_bm0 (pa : PlainAttrs T) (slot : Slot T name id) (hty : typeOf (.builtin id) = pure (.type "method_descriptor")) (hm : MtR X id r) (ho : PE X o to)
    (hbase : attributeBase o name X.env (eval o X.env) = eval o X.env := by rfl) (hline : (apos.endLine == cpos.line) = true := by rfl) : PE X (.Call (.Attribute o name apos) [] [] cpos) (tBM0 X.K T r to) := by
  intro pins s σ H Q I h
  refine wpAny_Call_method0_late hbase hline (thn (ho pins s σ H _ I h) fun v s1 ⟨x, H1, I1, r1, ty, q1⟩ => ?_)
  obtain ⟨h1, h2⟩ := tyV_is I1 r1 ty
  exact ⟨T, id, pa, slot, hty, h1, h2, Calls.callWith_builtin rfl (PySem.evalArgs_none (hm pins s1 σ H1 x [] v [] Q I1 r1 .nil q1))⟩
theorem pe_bm (pa : PlainAttrs T) (slot : Slot T name id) (hty : typeOf (.builtin id) = pure (.type "method_descriptor")) (hm : MtR X id r) (ho : PE X o to) (ha : PA X (e :: es) t)
    (hbase : attributeBase o name X.env (eval o X.env) = eval o X.env := by rfl)
    (hfew : ((backTo cpos (starEach (e :: es) X.env)).all (fun x => !x.1) && (backToKw cpos (keywordEach [] X.env)).all (fun x => x.1.isSome)
      && decide ((e :: es).length + ([] : List Keyword).length + (if ([] : List Keyword).isEmpty then 0 else 1) < 30)) = true := by rfl)
    (hline : (apos.endLine == cpos.line) = true := by rfl) (hs : starEach (e :: es) X.env = (false, eval e X.env) :: starEach es X.env := by rfl) (hplain : (backTo cpos (starEach es X.env)).any (·.1) = false := by rfl) :
    PE X (.Call (.Attribute o name apos) (e :: es) [] cpos) (tBM X.K T r to t) := by
  intro pins s σ H Q I h
  refine wpAny_Call_method_late hbase hfew hline rfl (thn (ho pins s σ H _ I h) fun v s1 ⟨x, H1, I1, r1, ty, q1⟩ => ?_)
  obtain ⟨h1, h2⟩ := tyV_is I1 r1 ty
  refine ⟨T, id, pa, slot, hty, h1, h2, ?_⟩
  have hA := ha cpos pins s1 σ H1 _ I1 q1
  rw [hs] at hA ⊢
  refine Calls.callWith_builtin (by show (false || (backTo cpos (starEach es X.env)).any (·.1)) = false; rw [hplain] <;> rfl) (Calls.evalArgs_plain ?_)
  exact thn hA fun us s2 ⟨vs, H2, I2, r2, q2⟩ => hm pins s2 σ H2 x vs v us Q I2 r1 r2 q2
/- xs.append(e), list.index on a module's tuple .. are MtR facts of 06m -/
end
end L2

namespace L2
open PySem PySem.Spec PyProof.Rows

def MtM (X : Cx) (id : String) (r : V → List V → Hp → VK → Prop) : Prop :=
  ∀ (pins : List (Addr × Obj)) (s : Shared) (σ : St) (H : Hp) (x : V) (xs : List V) (v : Value) (us : List Value) (Q : VK), Inv X pins σ H s → RelV x v → Vals xs us → r x xs H Q →
    wpAny (model X.prog X.w) X.A (call (.builtin id) (v :: us)) (EP X pins σ Q) X.xe s

/-! ### lists of values -/
theorem Vals.one : ∀ {x : V} {us : List Value}, Vals [x] us → ∃ u, us = [u] ∧ RelV x u
  | _, _, .cons r .nil => ⟨_, rfl, r⟩
theorem Vals.two : ∀ {x y : V} {us : List Value}, Vals [x, y] us → ∃ u v, us = [u, v] ∧ RelV x u ∧ RelV y v
  | _, _, _, .cons r (.cons q .nil) => ⟨_, _, rfl, r, q⟩
theorem Vals.zero : ∀ {us : List Value}, Vals [] us → us = []
  | _, .nil => rfl
theorem Vals.dropLast {xs : List V} {us : List Value} (h : Vals xs us) : Vals xs.dropLast us.dropLast := by
  induction h with
  | nil => exact .nil
  | cons r t ih =>
    cases t with
    | nil => exact .nil
    | cons q t' => exact .cons r ih
theorem Vals.eraseIdx : ∀ {xs : List V} {us : List Value} (i : Nat), Vals xs us → Vals (xs.eraseIdx i) (us.eraseIdx i)
  | _, _, _, .nil => .nil
  | _, _, 0, .cons _ t => t
  | _, _, i + 1, .cons r t => .cons r (Vals.eraseIdx i t)
theorem Vals.reverse {xs : List V} {us : List Value} (h : Vals xs us) : Vals xs.reverse us.reverse := by
  induction h with
  | nil => exact .nil
  | cons r t ih => rw [List.reverse_cons, List.reverse_cons]; exact Vals.append ih (.cons r .nil)
theorem Vals.rep {xs : List V} {us : List Value} (h : Vals xs us) : ∀ k : Nat, Vals (List.replicate k xs).flatten (List.replicate k us).flatten
  | 0 => .nil
  | k + 1 => by
    rw [List.replicate_succ, List.replicate_succ, List.flatten_cons, List.flatten_cons]
    exact Vals.append h (Vals.rep h k)
theorem erase_last {α : Type} (l : List α) : l.eraseIdx (l.length - 1) = l.dropLast := by
  induction l with
  | nil => rfl
  | cons a r ih =>
    cases r with
    | nil => rfl
    | cons b r =>
      have e : (a :: b :: r).length - 1 = ((b :: r).length - 1) + 1 := by
        have h1 : (a :: b :: r).length = r.length + 2 := rfl
        have h2 : (b :: r).length = r.length + 1 := rfl
        omega
      rw [e, List.eraseIdx_cons_succ, ih]
      all_goals rfl
theorem len_erase {α : Type} : ∀ (l : List α) (i : Nat), (l.eraseIdx i).length ≤ l.length
  | [], _ => Nat.le_refl _
  | _ :: _, 0 => Nat.le_succ _
  | _ :: r, i + 1 => Nat.succ_le_succ (len_erase r i)
theorem foldl_rep (its : List Value) : ∀ (k : Nat) (acc : List Value),
    List.foldl (fun x1 x2 => x1 ++ x2) acc.toArray (List.replicate k its.toArray) = (acc ++ (List.replicate k its).flatten).toArray
  | 0, acc => by simp
  | k + 1, acc => by
    have e : acc.toArray ++ its.toArray = (acc ++ its).toArray := by simp
    have e2 : (acc ++ its) ++ (List.replicate k its).flatten = acc ++ (List.replicate (k + 1) its).flatten := by
      rw [List.replicate_succ, List.flatten_cons, List.append_assoc]
    rw [← e2, ← foldl_rep its k (acc ++ its), ← e, List.replicate_succ, List.foldl_cons]

section
variable {X : Cx} {pins : List (Addr × Obj)} {σ : St} {H : Hp} {s : Shared} {l b : Addr} {xs ys zs : List V}

/-! ### the two steps: a tracked list is rewritten, a new list is laid -/
theorem Inv.lset {its its' : List Value} {n : Nat} {f : Array Value → Array Value} {t' : Nat} (I : Inv X pins σ H s) (hH : H l = some (.lst xs))
    (e : s.heap.get? l = some { cls := .type "list", data := .seq its.toArray n }) (hf : f its.toArray = its'.toArray) (hv : Vals ys its') (hz : ys.length ≤ sizeLine) :
    Inv X pins σ (upd H l (.lst ys)) { s with heap := s.heap.update l (Obj.mapSeq f), toks := t' } := by
  have q := PySem.IsL.update e f
  rw [hf] at q
  refine I.write (x := l) (e := l) (by rw [hH]; exact trivial) (.inl rfl) (fun b' u hb hu => (Heap.get?_update_other s.heap (Obj.mapSeq f) (Ne.symm hb)).trans hu) ⟨_, q⟩ ?_
  exact ⟨hz, its', _, hv, q⟩
theorem Inv.lnew {its : List Value} {t' : Nat} (I : Inv X pins σ H s) (hv : Vals ys its) (hz : ys.length ≤ sizeLine) :
    Inv X pins σ (upd H s.heap.objs.size (.lst ys)) { s with heap := s.heap.push { cls := .type "list", data := .seq its.toArray }, toks := t' } :=
  I.laid (fun _ _ q => Heap.get?_push_of_some _ q) (Nat.le_refl _) ⟨hz, its, 0, hv, Heap.get?_push_size _ rfl⟩
theorem Inv.fresh (I : Inv X pins σ H s) : H s.heap.objs.size = none := I.hok.fresh (Nat.le_refl _)
theorem Inv.lstM (I : Inv X pins σ H s) (hH : H l = some (.lst xs)) : xs.length ≤ sizeLine ∧ ∃ (its : List Value) (n : Nat), Vals xs its ∧ xs.length = its.length ∧ s.heap.get? l = some { cls := .type "list", data := .seq its.toArray n } := by
  obtain ⟨z, its, n, r, e⟩ := I.hok l _ hH
  exact ⟨z, its, n, r, r.length, e⟩

theorem notLongL {n : Nat} (h : n ≤ sizeLine) : Builtin.List.listTooLong n = false := by
  unfold Builtin.List.listTooLong
  exact decide_eq_false (by omega)
end

section
variable {X : Cx}

/-! ### methods -/
def rAppend : V → List V → Hp → VK → Prop := fun x vs H Q => ∃ l xs y, x = .ref l ∧ vs = [y] ∧ H l = some (.lst xs) ∧ xs.length < sizeLine ∧ Q .non (upd H l (.lst (xs ++ [y])))
theorem mt_append : MtM X "list.append" rAppend := by
  intro pins s σ H x vs v us Q I rx rv h
  obtain ⟨l, xs, y, rfl, rfl, hH, hz, q⟩ := h
  cases rx
  obtain ⟨u, rfl, ru⟩ := rv.one
  obtain ⟨z, its, n, r, hl, e⟩ := I.lstM hH
  refine call_meets F.slot_list_append ⟨_, e, rfl⟩ F.entry_list_append (F.args_list_append_2 _ _) (PySem.list_append l its.toArray n u (by rw [List.size_toArray]; omega)) ⟨e, ?_⟩
  refine ⟨.non, _, I.lset (its' := its ++ [u]) hH e (by simp) (r.append (.cons ru .nil)) ?_, rfl, q⟩
  rw [List.length_append, List.length_singleton]
  omega

def rExtend : V → List V → Hp → VK → Prop := fun x vs H Q => ∃ l b xs zs, x = .ref l ∧ vs = [.ref b] ∧ H l = some (.lst xs) ∧ H b = some (.lst zs) ∧ xs.length + zs.length ≤ sizeLine ∧ Q .non (upd H l (.lst (xs ++ zs)))
theorem mt_extend : MtM X "list.extend" rExtend := by
  intro pins s σ H x vs v us Q I rx rv h
  obtain ⟨l, b, xs, zs, rfl, rfl, hH, hB, hz, q⟩ := h
  cases rx
  obtain ⟨u, rfl, ru⟩ := rv.one
  cases ru
  obtain ⟨z, its, n, r, hl, e⟩ := I.lstM hH
  obtain ⟨z2, its2, n2, r2, hl2, e2⟩ := I.lstM hB
  have hsz : its.toArray.size + its2.toArray.size ≤ sizeLine := by rw [List.size_toArray, List.size_toArray]; omega
  have hlong : ¬ (!its.toArray.isEmpty && Builtin.List.listTooLong (its.toArray.size + its2.toArray.size)) = true := by
    rw [notLongL hsz, Bool.and_false]
    exact Bool.false_ne_true
  refine call_meets F.slot_list_extend ⟨_, e, rfl⟩ F.entry_list_extend (F.args_list_extend_2 _ _)
    (AutoSeq1.list_extend_list_list_0 l its.toArray n b its2.toArray n2 hlong (by rw [List.size_toArray]; omega) (by omega)) ⟨e, e2, ?_⟩
  refine ⟨.non, _, I.lset (its' := its ++ its2) hH e (by simp) (r.append r2) ?_, rfl, q⟩
  rw [List.length_append]
  omega

def rPop : V → List V → Hp → VK → Prop := fun x vs H Q => ∃ l xs y, x = .ref l ∧ vs = [] ∧ H l = some (.lst xs) ∧ xs[xs.length - 1]? = some y ∧ Q y (upd H l (.lst xs.dropLast))
theorem mt_pop : MtM X "list.pop" rPop := by
  intro pins s σ H x vs v us Q I rx rv h
  obtain ⟨l, xs, y, rfl, rfl, hH, hy, q⟩ := h
  cases rx
  have hus := rv.zero
  subst hus
  obtain ⟨z, its, n, r, hl, e⟩ := I.lstM hH
  obtain ⟨u, hu, ru⟩ := r.get hy
  have hy' : its.toArray[its.toArray.size - 1]? = some u := by
    show its.toArray[its.length - 1]? = some u
    rw [← Array.getElem?_toList, ← hl]
    exact hu
  refine call_meets F.slot_list_pop ⟨_, e, rfl⟩ F.entry_list_pop (F.args_list_pop_1 _) (MeetsSeq.list_pop_last l its.toArray n u hy' (by rw [List.size_toArray]; omega)) ⟨e, ?_⟩
  refine ⟨y, _, I.lset (its' := its.dropLast) hH e ?_ r.dropLast ?_, ru, q⟩
  · show its.toArray.eraseIdxIfInBounds (its.toArray.size - 1) = its.dropLast.toArray
    rw [List.size_toArray, List.eraseIdxIfInBounds_toArray, erase_last]
  · rw [List.length_dropLast]
    omega

def rPopAt : V → List V → Hp → VK → Prop := fun x vs H Q => ∃ l xs i k y, x = .ref l ∧ vs = [.int i] ∧ H l = some (.lst xs) ∧ -(2 ^ 63) ≤ i ∧ i < 2 ^ 63 ∧ seqIndex? i xs.length = some k ∧ xs[k]? = some y ∧ Q y (upd H l (.lst (xs.eraseIdx k)))
theorem mt_popAt : MtM X "list.pop" rPopAt := by
  intro pins s σ H x vs v us Q I rx rv h
  obtain ⟨l, xs, i, k, y, rfl, rfl, hH, h1, h2, hk, hy, q⟩ := h
  cases rx
  obtain ⟨u, rfl, ru⟩ := rv.one
  obtain ⟨t, rfl⟩ := ru
  obtain ⟨z, its, n, r, hl, e⟩ := I.lstM hH
  obtain ⟨w, hw, rw'⟩ := r.get hy
  refine call_meets F.slot_list_pop ⟨_, e, rfl⟩ F.entry_list_pop (F.args_list_pop_2 _ _)
    (MeetsSeq.list_pop_at l its.toArray n i t k w (fitsIndex_both h1 h2) (by rw [List.size_toArray, ← hl]; exact hk) (by rw [← Array.getElem?_toList]; exact hw) (by rw [List.size_toArray]; omega)) ⟨e, ?_⟩
  refine ⟨y, _, I.lset (its' := its.eraseIdx k) hH e ?_ (r.eraseIdx k) ?_, rw', q⟩
  · show its.toArray.eraseIdxIfInBounds k = (its.eraseIdx k).toArray
    rw [List.eraseIdxIfInBounds_toArray]
  · have := len_erase xs k
    omega

def rReverse : V → List V → Hp → VK → Prop := fun x vs H Q => ∃ l xs, x = .ref l ∧ vs = [] ∧ H l = some (.lst xs) ∧ Q .non (upd H l (.lst xs.reverse))
theorem mt_reverse : MtM X "list.reverse" rReverse := by
  intro pins s σ H x vs v us Q I rx rv h
  obtain ⟨l, xs, rfl, rfl, hH, q⟩ := h
  cases rx
  have hus := rv.zero
  subst hus
  obtain ⟨z, its, n, r, hl, e⟩ := I.lstM hH
  refine call_meets F.slot_list_reverse ⟨_, e, rfl⟩ F.entry_list_reverse (F.args_list_reverse_1 _) (AutoSeq1.list_reverse_list_0 l its.toArray n (by rw [List.size_toArray]; omega)) ⟨e, ?_⟩
  refine ⟨.non, _, I.lset (its' := its.reverse) hH e (by simp) r.reverse ?_, rfl, q⟩
  rw [List.length_reverse]
  omega

def rClear : V → List V → Hp → VK → Prop := fun x vs H Q => ∃ l xs, x = .ref l ∧ vs = [] ∧ H l = some (.lst xs) ∧ Q .non (upd H l (.lst []))
theorem mt_clear : MtM X "list.clear" rClear := by
  intro pins s σ H x vs v us Q I rx rv h
  obtain ⟨l, xs, rfl, rfl, hH, q⟩ := h
  cases rx
  have hus := rv.zero
  subst hus
  obtain ⟨z, its, n, r, hl, e⟩ := I.lstM hH
  refine call_meets F.slot_list_clear ⟨_, e, rfl⟩ F.entry_list_clear (F.args_list_clear_1 _) (AutoSeq1.list_clear_list_0 l its.toArray n (by rw [List.size_toArray]; omega)) ⟨e, ?_⟩
  exact ⟨.non, _, I.lset (its' := []) (ys := []) hH e rfl .nil (Nat.zero_le _), rfl, q⟩

/-! ### list + list, list += list, list * int -/
def rCat : R2 := fun x y H Q => ∃ l b xs zs, x = .ref l ∧ y = .ref b ∧ H l = some (.lst xs) ∧ H b = some (.lst zs) ∧ xs.length + zs.length ≤ sizeLine ∧ ∀ p, H p = none → Q (.ref p) (upd H p (.lst (xs ++ zs)))
theorem op_cat : OpR X (binaryOp .Add) rCat := by
  intro pins s σ H x y v u Q I rx ry h
  obtain ⟨l, b, xs, zs, rfl, rfl, hH, hB, hz, q⟩ := h
  cases rx
  cases ry
  obtain ⟨z, its, n, r, hl, e⟩ := I.lstM hH
  obtain ⟨z2, its2, n2, r2, hl2, e2⟩ := I.lstM hB
  refine PySem.P.add_list e e2 ?_ (by rw [List.size_toArray, List.size_toArray]; omega)
  have ea : its.toArray ++ its2.toArray = (its ++ its2).toArray := by simp
  rw [ea]
  exact ⟨.ref _, _, I.lnew (t' := s.toks) (r.append r2) (by rw [List.length_append]; omega), rfl, q _ I.fresh⟩
/-- a list times an int (a negative one is nothing) -/
def rRep : R2 := fun x y H Q => ∃ l k xs, x = .ref l ∧ y = .int k ∧ H l = some (.lst xs) ∧ -(2 ^ 63) ≤ k ∧ k < 2 ^ 63 ∧ xs.length * k.toNat ≤ sizeLine ∧
  ∀ p, H p = none → Q (.ref p) (upd H p (.lst (List.replicate k.toNat xs).flatten))
theorem len_rep {α : Type} (xs : List α) (k : Nat) : (List.replicate k xs).flatten.length = k * xs.length := by
  induction k with
  | zero => simp
  | succ k ih => rw [List.replicate_succ, List.flatten_cons, List.length_append, ih, Nat.succ_mul, Nat.add_comm]
theorem op_rep : OpR X (binaryOp .Mult) rRep := by
  intro pins s σ H x y v u Q I rx ry h
  obtain ⟨l, k, xs, rfl, rfl, hH, h1, h2, hz, q⟩ := h
  cases rx
  obtain ⟨t, rfl⟩ := ry
  obtain ⟨z, its, n, r, hl, e⟩ := I.lstM hH
  have hlen : its.toArray.size * k.toNat ≤ sizeLine := by rw [List.size_toArray, ← hl]; exact hz
  have hcap : ¬ its.toArray.size * k.toNat > (2 ^ 63 - 1) / 8 := by
    have : (sizeLine : Nat) ≤ (2 ^ 63 - 1) / 8 := by decide
    omega
  have hfit : ¬ (!Builtin.List.listFitsIndex k) = true := by
    rw [fitsIndex_both h1 h2]
    exact Bool.false_ne_true
  have hlong : ¬ Builtin.List.listTooLong (its.toArray.size * k.toNat) = true := by
    rw [notLongL hlen]
    exact Bool.false_ne_true
  have hnew : List.foldl (fun x1 x2 => x1 ++ x2) #[] (List.replicate (if its.toArray.isEmpty = true then 0 else k.toNat) its.toArray) = (List.replicate k.toNat its).flatten.toArray := by
    have f0 : ∀ m : Nat, List.foldl (fun x1 x2 => x1 ++ x2) #[] (List.replicate m its.toArray) = (List.replicate m its).flatten.toArray := fun m => by
      have := foldl_rep its m []
      rw [List.nil_append] at this
      exact this
    rw [f0]
    cases its with
    | nil => simp
    | cons a r' => rw [if_neg (by simp)]
  refine wpAny_binaryOp_repeat_ref (T := "list") (U := "int") (by decide) ⟨_, e, rfl⟩ (fun s' => typeIs_int s' k t) noFill_list_mul F.fills_int_mul F.slot_int_rmul repeat_list F.slot_int_index.lookup
    (call_meets F.slot_int_rmul (typeIs_int s k t) F.entry_int_rmul (F.args_int_rmul_2 _ _) (int___rmul___int_list k t l its.toArray n)
      ⟨e, rfl, ⟨_, e, rfl⟩, call_meets F.slot_list_mul ⟨_, e, rfl⟩ F.entry_list_mul (F.args_list_mul_2 _ _) (AutoListH.list___mul___list_int_3 l its.toArray n k t hfit hcap hlong) ⟨e, ?_⟩⟩)
  rw [hnew]
  exact ⟨.ref _, _, I.lnew (t' := s.toks) (r.rep k.toNat) (by rw [len_rep, Nat.mul_comm]; exact hz), rfl, q _ I.fresh⟩

/-! ### del xs[i] -/
theorem del_list {pins : List (Addr × Obj)} {s : Shared} {σ : St} {H : Hp} {l : Addr} {xs : List V} {i : Int} {t : Tok} {k : Nat} {Q : Unit → Shared → Prop} (I : Inv X pins σ H s) (hH : H l = some (.lst xs))
    (h1 : -(2 ^ 63) ≤ i) (h2 : i < 2 ^ 63) (hk : seqIndex? i xs.length = some k) (h : ∀ s', Inv X pins σ (upd H l (.lst (xs.eraseIdx k))) s' → Q () s') :
    wpAny (model X.prog X.w) X.A (delItem (.ref l) (.int i t)) Q X.xe s := by
  obtain ⟨z, its, n, r, hl, e⟩ := I.lstM hH
  refine PySem.P.delItem_list (k := k) e (fitsIndex_both h1 h2) (by rw [List.size_toArray, ← hl]; exact hk) (h _ ?_) (by rw [List.size_toArray]; omega)
  refine I.lset (its' := its.eraseIdx k) (t' := s.toks) hH e ?_ (r.eraseIdx k) ?_
  · show its.toArray.eraseIdxIfInBounds k = (its.eraseIdx k).toArray
    rw [List.eraseIdxIfInBounds_toArray]
  · have := len_erase xs k
    omega
end

/-! ### xs[a:b] = ys -/
section
variable {prog : Program} {w : World} {A : Around} {E : Value → Shared → Prop} {s : Shared}
theorem splice_eq (its its2 : List Value) (a c : Nat) : its.toArray.extract 0 a ++ its2.toArray ++ its.toArray.extract c its.toArray.size = (its.take a ++ its2 ++ its.drop c).toArray := by
  apply Array.toList_inj.mp
  first
    | (simp
       exact List.take_of_length_le (by simp))
    | simp [List.take_of_length_le]
    | simp
theorem bounds_run {a c n : Nat} (hac : a ≤ c) (hc : c ≤ n) : sliceBounds (some (a : Int)) (some (c : Int)) none n = ((a : Int), (c : Int), 1) := by
  simp only [sliceBounds, Option.getD_none]
  have h1 : ¬ ((a : Int) < 0) := by omega
  have h2 : ¬ ((c : Int) < 0) := by omega
  simp only [h1, h2, if_false, show (1 : Int) > 0 by decide, if_true]
  congr 1
  · omega
  · congr 1; omega
set_option maxRecDepth 100000 in
/-- list.__setitem__ with a slice of step one and another list -/
theorem setItem_slice {l b sl : Addr} {items new : Array Value} {n n2 : Nat} {vl vu : Value} {a c : Nat} {Q : Unit → Shared → Prop}
    (e : s.heap.get? l = some { cls := .type "list", data := .seq items n }) (e2 : s.heap.get? b = some { cls := .type "list", data := .seq new n2 }) (hne : l ≠ b)
    (hs : s.heap.IsSliceOf sl vl vu .none) (pl : IsPart vl (some (a : Int))) (pu : IsPart vu (some (c : Int))) (hac : a ≤ c) (hc : c ≤ items.size)
    (hsz : items.size + new.size ≤ sizeLine) (h : Q () { s with heap := s.heap.update l (Obj.mapSeq fun xs => xs.extract 0 a ++ new ++ xs.extract c xs.size) }) :
    wpAny (model prog w) A (setItem (.ref l) (.ref sl) (.ref b)) Q E s := by
  have hl : s.heap.IsList l items := PySem.IsL.isList e
  have hb : s.heap.IsList b new := PySem.IsL.isList e2
  obtain ⟨os, hos, hcs, hds⟩ := id hs
  have hTs : s.TypeIs (.ref sl) "slice" := ⟨os, hos, hcs⟩
  have hstep : ¬ ((rawPart none == rawInt 0) = true) := Bool.false_ne_true
  have hsame : Builtin.List.listSameRef (.ref l) (.ref b) = false := by
    unfold Builtin.List.listSameRef
    exact beq_eq_false_iff_ne.mpr hne
  have hmax : (max (a : Int) (c : Int)).toNat = c := by omega
  have hz' : ((fun xs : Array Value => xs.extract 0 a ++ new ++ xs.extract c xs.size) items).size ≤ sizeLine + 1 := by
    simp only [Array.size_append, Array.size_extract]
    omega
  unfold setItem
  try with_reducible refine wpAny_holding ?_
  first | refine wpAny_bind (wpAny_pure ?_) | skip
  refine wpAny_bind (wpAny_sequenceKey hl.typeIs (by decide) ?_)
  refine wpAny_bind (wpAny_callSpecial?_slot (name := Str.ofString "__setitem__") hl.typeIs slot_list_setitem
    (wpAny_call_entry slot_list_setitem hl.typeIs entry_list_setitem ?_ (args_list_setitem _ _ _)))
  show wpAny _ _ (Builtin.List.listSubscript? (.ref sl) >>= _) _ _ s
  refine wpAny_bind ?_
  unfold Builtin.List.listSubscript?
  refine wpAny_bind (wpAny_specialOf hTs slice_no_index ?_)
  simp only [Option.isNone_none, if_true]
  refine wpAny_pure ?_
  show wpAny _ _ (typeOf (.ref sl) >>= _) _ _ s
  refine wpAny_bind (wpAny_typeOf hTs ?_)
  first
    | rw [if_neg (by decide)]
    | refine PySem.W.KFB.if_not (by decide) ?_
  rw [listSliceParts_eq]
  refine wpAny_bind (wpAny_bind (wpAny_field hos hds (x := .none) rfl (wpAny_bind (wpAny_listPart .none ?_))))
  rw [if_neg hstep]
  refine wpAny_bind (wpAny_field hos hds (x := vl) rfl (wpAny_bind (wpAny_listPart pl ?_)))
  refine wpAny_bind (wpAny_field hos hds (x := vu) rfl (wpAny_bind (wpAny_listPart pu (wpAny_pure ?_))))
  first
    | simp only [hsame, Bool.false_eq_true, if_false]
    | refine PySem.W.KFB.if_not hsame ?_
    | (dsimp only
       rw [if_neg (by rw [hsame]; exact Bool.false_ne_true)])
  refine wpAny_bind (m := Builtin.List.listAllItems (.ref b) "must assign iterable to extended slice") ?_
  unfold Builtin.List.listAllItems
  refine wpAny_bind (wpAny_typeOf hb.typeIs ?_)
  first
    | refine PySem.W.KFB.if_so (by decide) ?_
    | rw [if_pos (by decide)]
    | simp only [beq_self_eq_true, Bool.true_or, if_true]
  unfold Builtin.List.listItems
  refine wpAny_bind (wpAny_seqItems e2 rfl (wpAny_pure ?_))
  refine wpAny_bind (wpAny_bind (wpAny_seqItems e rfl (wpAny_pure ?_)))
  refine wpAny_bind (wpAny_of_eq ((sliceIndices_raw (some (a : Int)) (some (c : Int)) none items.size (by simp)).trans (congrArg (pure : Int × Int × Int → Sem (Int × Int × Int)) (bounds_run hac hc))) ?_)
  show wpAny _ _ (if ((1 : Int) == 1) = true then _ else _) _ _ s
  rw [if_pos (by decide)]
  refine wpAny_bind (wpAny_rule ?_)
  first
    | simp only [notLongL hsz, Bool.false_eq_true, if_false]
    | refine PySem.W.KFB.if_not (notLongL hsz) ?_
  first | refine wpAny_bind (wpAny_pure ?_) | skip
  show wpAny _ _ (updateSeq l (fun xs => xs.extract 0 ((a : Int)).toNat ++ new ++ xs.extract (max (a : Int) (c : Int)).toNat xs.size) >>= _) _ _ s
  rw [hmax, Int.toNat_natCast]
  refine wpAny_bind (wpAny_updateSeq (hz := Nat.le_trans (Nat.le_add_right _ _) hsz) (_hz' := hz') e rfl ?_)
  refine wpAny_bind (wpAny_letGo ?_)
  first
    | exact wpAny_bind (wpAny_pure (wpAny_pure ⟨.none, rfl, wpAny_pure h⟩))
    | exact wpAny_pure ⟨.none, rfl, wpAny_pure h⟩
end

section
variable {X : Cx}
/-- xs[a:c] = ys of another list, at the value level: sl is the slice object that was just made -/
theorem set_slice {pins : List (Addr × Obj)} {s : Shared} {σ : St} {H : Hp} {l b sl : Addr} {xs ys : List V} {a c : Int} {vl vu : Value} {Q : Unit → Shared → Prop} (I : Inv X pins σ H s)
    (hH : H l = some (.lst xs)) (hB : H b = some (.lst ys)) (hne : l ≠ b) (hs : s.heap.IsSliceOf sl vl vu .none) (ra : RelV (.int a) vl) (rc : RelV (.int c) vu) (h0 : 0 ≤ a) (hac : a ≤ c) (hc : c ≤ xs.length)
    (hz : xs.length + ys.length ≤ sizeLine) (h : ∀ s', Inv X pins σ (upd H l (.lst (xs.take a.toNat ++ ys ++ xs.drop c.toNat))) s' → Q () s') :
    wpAny (model X.prog X.w) X.A (setItem (.ref l) (.ref sl) (.ref b)) Q X.xe s := by
  obtain ⟨ta, rfl⟩ := ra
  obtain ⟨tc, rfl⟩ := rc
  obtain ⟨z, its, n, r, hl, e⟩ := I.lstM hH
  obtain ⟨z2, its2, n2, r2, hl2, e2⟩ := I.lstM hB
  obtain ⟨a', rfl⟩ := Int.eq_ofNat_of_zero_le h0
  obtain ⟨c', rfl⟩ := Int.eq_ofNat_of_zero_le (Int.le_trans h0 hac)
  simp only [Int.toNat_natCast] at h
  refine setItem_slice (a := a') (c := c') e e2 hne hs (.int _ _) (.int _ _) (by omega) (by rw [List.size_toArray]; omega) (by rw [List.size_toArray, List.size_toArray]; omega) (h _ ?_)
  refine I.lset (its' := its.take a' ++ its2 ++ its.drop c') (t' := s.toks) hH e ?_ (Vals.append (Vals.append (r.take _) r2) (r.drop _)) ?_
  · exact splice_eq its its2 a' c'
  · rw [List.length_append, List.length_append, List.length_take, List.length_drop]
    omega
end
end L2

namespace Att
open PySem PySem.W PySem.Calls PyProof.Rows

/-! ### the script -/
theorem ints_of_wellAll {P : Params} {h : Heap} : ∀ (ns : List Int) (vs : List Value), WellAll P h vs (ns.map WData.int) → IntsAre vs ns := by
  intro ns
  induction ns with
  | nil =>
    intro vs w
    rw [List.map_nil] at w
    cases w
    exact .nil
  | cons n ns ih =>
    intro vs w
    rw [List.map_cons] at w
    cases w with
    | cons a b =>
      cases a
      exact .cons _ _ (ih _ b)

theorem script_of {l : OpenLaw} {n : Nat} (hn : l.most = some n) {P : Params} {h : Heap} {args : List WData} {vals : List Value}
    (hpre : l.row.toRowW.claim.pre args = true) (hwl : WellAll P h vals args) :
    ∃ a vs ns, vals = [Value.ref a] ∧ args = [WData.list (ns.map WData.int)] ∧ h.get? a = some { cls := .type "list", data := .seq vs.toArray } ∧ IntsAre vs ns ∧ ns.length ≤ n := by
  have hsh : WShape.hasAll [] args [.list .int] = true := (pre_splitW hpre).1
  have hc : l.pre.holds [] { args := args } = true := (pre_splitW hpre).2
  obtain ⟨d, r, rfl, h1, h2⟩ := hasAllW_cons hsh
  obtain rfl := hasAllW_nil h2
  obtain ⟨xs, rfl, h3⟩ := hasW_list h1
  obtain ⟨ns, rfl⟩ := items_int h3
  have hlen : ns.length ≤ n := by
    unfold OpenLaw.pre at hc
    have h4 : (WTm.not (.lt (.lit (.int (n : Int))) (.len (.arg 0)))).holds [] { args := [.list (ns.map .int)] } = true := by
      have h4 := (holds_andW hc).1
      rw [hn] at h4
      exact h4
    have h5 := condW_of h4 (w_not (w_lt w_lit (w_len_list (w_arg rfl))))
    rw [List.length_map] at h5
    refine Nat.le_of_not_lt fun q => ?_
    have q' : (n : Int) < ((ns.length : Nat) : Int) := by omega
    first
      | (rw [decide_eq_true q'] at h5; exact absurd h5 (by decide))
      | (simp at h5; omega)
  cases hwl with
  | cons w1 w2 =>
    cases w2
    cases w1 with
    | list ho hall => exact ⟨_, _, ns, rfl, rfl, ho, ints_of_wellAll ns _ hall, hlen⟩

theorem post_true (l : OpenLaw) (args : List WData) : l.row.toRowW.claim.post args (.bool true) args = true :=
  postW_of (r := l.row.toRowW) (X := (true == true))
    (show WShape.has [] (.bool true) .bool = true by first | rfl | decide | simp [WShape.has, WShape.arms, WShape.armsAll])
    (show (WTm.eq .res (.lit (.bool true))).value [] { args := args, res := some (.bool true), after := args } = some (.bool (true == true)) from w_eq_bool (w_res rfl) w_lit) rfl

/-! ### the attachment: holds_open's last premise (the goal 'hc' behind k_head) from a wpAny of the law's body -/
theorem attach {l : OpenLaw} {n : Nat} {q : Program} {loose : List Str} {XP : (Str → Option Value) → Heap → Prop} {YP : World → Heap → Prop} {d : DefRec} {x : Str}
    (hn : l.most = some n) (hdf : d.params.defaults = [])
    (hbind : ∀ pm cd doc v : Value, bindArgs (docDef d.name d.params d.body d.scope pm cd doc) ⟨[v], []⟩ = pure [(x, v)])
    (hx : d.scope.names.lookup x = some .local ∨ d.scope.names.lookup x = some .cell)
    (hk : d.scope.kind = .function) (hco : d.scope.isCoroutine = false) (hgen : d.scope.isGenerator = false)
    (body : ∀ (w : World) (s₀ s₁ s : Shared) (mg mb : Str → Option Value) (fa : Addr) (o : Obj) (pm cd doc : Value) (a : Addr) (vs : List Value) (ns : List Int),
      Ground q loose [] XP w s₀ mg mb s₁.heap → YP w s₁.heap →
      s₁.heap.get? fa = some o → o.data = .func (docDef d.name d.params d.body d.scope pm cd doc) → s₁.heap.CodeRec cd d.name → mg d.name = some (.ref fa) →
      s₁.heap.get? a = some { cls := .type "list", data := .seq vs.toArray } → IntsAre vs ns → ns.length ≤ n →
      s.gens = #[] → s.os = s₁.os →
      Fr s₁.heap s₁.heap.objs.size s.heap (bindL (envOfC d.name d.scope s₁.heap.objs.size fa cd).kindOf [(x, .ref a)] fun _ => none) →
      Cl s₁.heap.objs.size (cellsFrom (s₁.heap.objs.size + 1) d.scope.names []) s.heap (bindC (envOfC d.name d.scope s₁.heap.objs.size fa cd).kindOf [(x, .ref a)] fun _ => none) →
      wpAny (model l.prog w) (callerA.deeper (envOfC d.name d.scope s₁.heap.objs.size fa cd)) (execs d.body (envOfC d.name d.scope s₁.heap.objs.size fa cd))
        (fun f s' => f = .ret (.bool true) ∧ OldK s₁.heap s'.heap ∧ s'.os = s₁.os ∧ AllBare s'.gens) (fun _ _ => False) s) :
    WalkO q loose XP YP l.row.toRowW d [] (fun f vs => PySem.call f vs) := by
  intro w s₀ s₁ mg mb G Y fa o pm cd doc dV kV ho hd hcd hD hmg hg args vals as hpre hlay hrd hwl hlo
  obtain rfl : dV = .none := Dflts.none hD hdf
  obtain rfl : kV = .none := Dflts.noKw hD
  obtain ⟨a, vs, ns, rfl, rfl, hobj, hints, hlen⟩ := script_of hn hpre hwl
  refine enter_call ?_
  refine call_cells_ret (o := o) (by rw [depth_caller]; decide) ho (fd_plain hd) G.T.nolimit hcd (hbind pm cd doc (.ref a)) (fun y hy => ?_) (fun h₁ tk F X => ?_) hco hgen hk
  · obtain rfl : y = (x, Value.ref a) := List.mem_singleton.mp hy
    rcases hx with e | e
    · exact .inl e
    · exact .inr ⟨e, cellsFrom_some _ _ _ (.inl e)⟩
  · refine wpAny_mono (body w s₀ s₁ { s₁ with heap := h₁, toks := tk } mg mb fa o pm cd doc a vs ns G Y ho (fd_plain hd) hcd hmg hobj hints hlen hg rfl F X) (fun f s' hq => ?_) (fun _ _ hq => hq)
    obtain ⟨rfl, h2, h3, h4⟩ := hq
    exact ⟨.inl ⟨.bool true, .bool true, [], rfl, fun _ => rfl, .bool true, post_true l _, fun _ => ⟨List.Pairwise.nil, fun _ hm => (nomatch hm)⟩⟩, h2, h3, h4⟩

/-- the same from a codeAny of the CALL (for a layer whose function contracts speak of calls) -/
theorem attach_call {l : OpenLaw} {n : Nat} {q : Program} {loose : List Str} {XP : (Str → Option Value) → Heap → Prop} {YP : World → Heap → Prop} {d : DefRec}
    (hn : l.most = some n) (hdf : d.params.defaults = [])
    (call : ∀ (w : World) (s₀ s₁ : Shared) (mg mb : Str → Option Value) (fa : Addr) (o : Obj) (pm cd doc : Value) (a : Addr) (vs : List Value) (ns : List Int),
      Ground q loose [] XP w s₀ mg mb s₁.heap → YP w s₁.heap →
      s₁.heap.get? fa = some o → o.data = .func (docDef d.name d.params d.body d.scope pm cd doc) → s₁.heap.CodeRec cd d.name → mg d.name = some (.ref fa) →
      s₁.heap.get? a = some { cls := .type "list", data := .seq vs.toArray } → IntsAre vs ns → ns.length ≤ n → s₁.gens = #[] →
      codeAny (model l.prog w) callerA (.call (.ref fa) ⟨[.ref a], []⟩) (fun r s' => r = .ok (.ret (.bool true)) ∧ OldK s₁.heap s'.heap ∧ s'.os = s₁.os ∧ AllBare s'.gens) s₁) :
    WalkO q loose XP YP l.row.toRowW d [] (fun f vs => PySem.call f vs) := by
  intro w s₀ s₁ mg mb G Y fa o pm cd doc dV kV ho hd hcd hD hmg hg args vals as hpre hlay hrd hwl hlo
  obtain rfl : dV = .none := Dflts.none hD hdf
  obtain rfl : kV = .none := Dflts.noKw hD
  obtain ⟨a, vs, ns, rfl, rfl, hobj, hints, hlen⟩ := script_of hn hpre hwl
  refine enter_call (codeAny_mono (call w s₀ s₁ mg mb fa o pm cd doc a vs ns G Y ho (fd_plain hd) hcd hmg hobj hints hlen hg) fun r s' hq => ?_)
  obtain ⟨rfl, h2, h3, h4⟩ := hq
  exact ⟨.inl ⟨.bool true, .bool true, [], rfl, fun _ => rfl, .bool true, post_true l _, fun _ => ⟨List.Pairwise.nil, fun _ hm => (nomatch hm)⟩⟩, h2, h3, h4⟩

/-- the same where the top left finished generators (o_head chose holds_openN): nothing may have changed at all and no generator may be left -/
theorem attachN {l : OpenLaw} {n : Nat} {q : Program} {loose : List Str} {XP : (Str → Option Value) → Heap → Prop} {YP : World → Heap → Prop} {d : DefRec} {x : Str}
    (hn : l.most = some n) (hdf : d.params.defaults = [])
    (hbind : ∀ pm cd doc v : Value, bindArgs (docDef d.name d.params d.body d.scope pm cd doc) ⟨[v], []⟩ = pure [(x, v)])
    (hx : d.scope.names.lookup x = some .local ∨ d.scope.names.lookup x = some .cell)
    (hk : d.scope.kind = .function) (hco : d.scope.isCoroutine = false) (hgen : d.scope.isGenerator = false)
    (body : ∀ (w : World) (s₀ s₁ s : Shared) (mg mb : Str → Option Value) (fa : Addr) (o : Obj) (pm cd doc : Value) (a : Addr) (vs : List Value) (ns : List Int),
      Ground q loose [] XP w s₀ mg mb s₁.heap → YP w s₁.heap →
      s₁.heap.get? fa = some o → o.data = .func (docDef d.name d.params d.body d.scope pm cd doc) → s₁.heap.CodeRec cd d.name → mg d.name = some (.ref fa) →
      s₁.heap.get? a = some { cls := .type "list", data := .seq vs.toArray } → IntsAre vs ns → ns.length ≤ n →
      s.gens = #[] → s.os = s₁.os →
      Fr s₁.heap s₁.heap.objs.size s.heap (bindL (envOfC d.name d.scope s₁.heap.objs.size fa cd).kindOf [(x, .ref a)] fun _ => none) →
      Cl s₁.heap.objs.size (cellsFrom (s₁.heap.objs.size + 1) d.scope.names []) s.heap (bindC (envOfC d.name d.scope s₁.heap.objs.size fa cd).kindOf [(x, .ref a)] fun _ => none) →
      wpAny (model l.prog w) (callerA.deeper (envOfC d.name d.scope s₁.heap.objs.size fa cd)) (execs d.body (envOfC d.name d.scope s₁.heap.objs.size fa cd))
        (fun f s' => f = .ret (.bool true) ∧ (∀ b o, s₁.heap.get? b = some o → s'.heap.get? b = some o) ∧ s'.os = s₁.os ∧ s'.gens = #[]) (fun _ _ => False) s) :
    WalkN q loose XP YP l.row.toRowW d [] (fun f vs => PySem.call f vs) := by
  intro w s₀ s₁ mg mb G Y fa o pm cd doc dV kV ho hd hcd hD hmg hg args vals as hpre hlay hrd hwl hlo
  obtain rfl : dV = .none := Dflts.none hD hdf
  obtain rfl : kV = .none := Dflts.noKw hD
  obtain ⟨a, vs, ns, rfl, rfl, hobj, hints, hlen⟩ := script_of hn hpre hwl
  refine enter_callW ?_
  refine call_cells_ret (o := o) (by rw [depth_caller]; decide) ho (fd_plain hd) G.T.nolimit hcd (hbind pm cd doc (.ref a)) (fun y hy => ?_) (fun h₁ tk F X => ?_) hco hgen hk
  · obtain rfl : y = (x, Value.ref a) := List.mem_singleton.mp hy
    rcases hx with e | e
    · exact .inl e
    · exact .inr ⟨e, cellsFrom_some _ _ _ (.inl e)⟩
  · refine wpAny_mono (body w s₀ s₁ { s₁ with heap := h₁, toks := tk } mg mb fa o pm cd doc a vs ns G Y ho (fd_plain hd) hcd hmg hobj hints hlen hg rfl F X) (fun f s' hq => ?_) (fun _ _ hq => hq)
    obtain ⟨rfl, h2, h3, h4⟩ := hq
    exact ⟨.inl ⟨.bool true, .bool true, [], rfl, fun _ => rfl, .bool true, post_true l _, fun _ => ⟨List.Pairwise.nil, fun _ hm => (nomatch hm)⟩⟩, h2, h3, h4⟩

/-! ### rules over ANY heap (no ledger) from facts about the written part K: the library's own take a ledger (News) for what they write -/
section
variable {prog : Program} {w : World} {A : Around} {E : Value → Shared → Prop} {s : Shared} {K : Frag}

/-- a def of the module, or a method (qual 'C.m'), entered: the frame is the next address; cells behind it -/
theorem call_fn {R : Result → Shared → Prop} {name qual : Str} {params : Arguments} {body : List Stmt} {scope : Scope} {dV kV doc pm cdv ct oc : Value} {an od : Option Addr} {osl : Array (Option Value)} {f : Addr} {args : Args} {binds : List (Str × Value)}
    (X : K.In s.heap) (hlim : s.heap.NoLimit) (ho : K.lookup f = some ⟨oc, od, .func (fnOf name qual params body scope dV kV doc pm an cdv ct), osl⟩) (hcd : codeIn K cdv qual = true) (hroom : A.depth < recursionLimit)
    (hbind : BindsTo s (fnOf name qual params body scope dV kV doc pm an cdv ct) args binds)
    (hkind : (binds.all fun y => scope.names.lookup y.1 == some .local || scope.names.lookup y.1 == some .cell) = true)
    (h : ∀ s₁, InCallC s s.heap.objs.size (bindL (envOfC qual scope s.heap.objs.size f cdv).kindOf binds fun _ => none) (cellsFrom (s.heap.objs.size + 1) scope.names [])
        (bindC (envOfC qual scope s.heap.objs.size f cdv).kindOf binds fun _ => none) s₁ →
      wpAny (model prog w) (A.deeper (envOfC qual scope s.heap.objs.size f cdv)) (execs body (envOfC qual scope s.heap.objs.size f cdv))
        (fun fl s' => R (.ok (.ret (match fl with | .ret v => v | _ => .none))) s')
        (fun e s' => wpAny (model prog w) (A.deeper (envOfC qual scope s.heap.objs.size f cdv)) (leaving (envOfC qual scope s.heap.objs.size f cdv) e) (fun _ s'' => R (.error e) s'') (fun e' s'' => R (.error e') s'') s') s₁)
    (hco : scope.isCoroutine = false) (hgen : scope.isGenerator = false) (hk : scope.kind = .function) : codeAny (model prog w) A (.call (.ref f) args) R s := by
  refine codeAny_call_function hroom (X _ _ ho) rfl hco hgen rfl (codeRec_of X hcd) (hbind _ _ _ _ ?_)
  refine wpAny_newFunctionEnv_cells hk (kindsX hkind _) fun env he s₁ x => ?_
  subst he
  exact ⟨hlim.keeps x.toInCall.keep, codeAny_func (h s₁ x)⟩

/-- C(..): dict at size, instance at size + 1, then __init__ -/
theorem make_obj {R : Result → Shared → Prop} {C fI : Addr} {rest : List Value} {kw : List (Str × Value)}
    (X : K.In s.heap) (hm : makesIn K C = true) (hi : findIn K (.ref C) "__init__" = some (some (.ref fI))) (hf : isFn K (.ref fI) = true)
    (h : codeAny (model prog w) (A.under (.builtin "type.__call__" ⟨.ref C :: rest, kw⟩)) (.call (.ref fI) ⟨.ref (s.heap.objs.size + 1) :: rest, kw⟩) (InitBack (s.heap.objs.size + 1) R)
      { s with heap := (s.heap.push emptyDict).push (instObj C s.heap.objs.size) }) : codeAny (model prog w) A (.call (.ref C) ⟨rest, kw⟩) R s := by
  obtain ⟨hh, g, d, t, os⟩ := s
  exact make_core (makes_of X hm) (looks_findIn X hi) (fun self => bind_fn X self (beq_iff_eq.mp hf)) (.inl rfl) h

/-- x.name where the instance's dict holds the name and the class does not -/
theorem get_field {x C : Addr} {ox : Obj} {es : List DictEntry} {n : Nat} {name : Str} {expr : Bool} {v : Value} {Q : Value → Shared → Prop}
    (X : K.In s.heap) (I : PySem.W.InstAt s.heap x ox C (some (dictOf es n))) (hg : plainGet K C name = true) (hh : hasDictIn K C = true) (ha : findIn K (.ref C) name = some none)
    (hl : getL name es = some (some v)) (hv : handedIn v = true) (h : Q v { s with toks := s.toks + 1 }) : wpAny (model prog w) A (getAttr (.ref x) name expr) Q E s :=
  get_value X I (plainGet_of hg).1 (findObj_own hh ha rfl hl) hv h

/-- x.m(..): the method found in the class -/
theorem get_method {x C f : Addr} {ox : Obj} {es : List DictEntry} {n : Nat} {name : Str} {pl : Sem Bool} {Q : Value × List Value → Shared → Prop}
    (X : K.In s.heap) (I : PySem.W.InstAt s.heap x ox C (some (dictOf es n))) (hg : plainGet K C name = true) (hf : findIn K (.ref C) name = some (some (.ref f))) (ht : isFn K (.ref f) = true)
    (hl : getL name es = some none) (h : Q (.ref f, [.ref x]) s) : wpAny (model prog w) A (getMethod (.ref x) name pl) Q E s :=
  method_fn X I (plainGet_of hg).1 (plainGet_of hg).2 hf (beq_iff_eq.mp ht) (by show (lookIn name (dictOf es n)).map _ = _; rw [lookIn_dict, hl]; rfl) h

/-! the whole heap as the ledger: makes every rule that writes through a ledger a rule over any heap -/
def noObjs (h : Heap) : Heap := { h with objs := #[] }
theorem noObjs_get (h : Heap) (b : Addr) : (noObjs h).get? b = none := by
  cases e : (noObjs h).get? b with
  | none => rfl
  | some o => exact absurd (Heap.lt_size e) (Nat.not_lt_zero _)
def ledger (h : Heap) (L d : Addr) : List (Addr × Obj) := (List.range h.objs.size).filterMap fun a => if a = L ∨ a = d then none else (h.get? a).map fun o => (a, o)
theorem mem_ledger {h : Heap} {L d a : Addr} {o : Obj} : (a, o) ∈ ledger h L d ↔ a ≠ L ∧ a ≠ d ∧ h.get? a = some o := by
  unfold ledger
  rw [List.mem_filterMap]
  constructor
  · rintro ⟨b, _, e⟩
    split at e
    · cases e
    · rename_i hb
      obtain ⟨o', ho, e'⟩ := Option.map_eq_some_iff.mp e
      cases e'
      exact ⟨fun q => hb (.inl q), fun q => hb (.inr q), ho⟩
  · rintro ⟨n1, n2, ho⟩
    refine ⟨a, List.mem_range.mpr (Heap.lt_size ho), ?_⟩
    rw [if_neg (show ¬ (a = L ∨ a = d) from fun q => q.elim n1 n2), ho] <;> rfl
theorem news_ledger {h : Heap} {L d : Addr} {od : Obj} (hne : d ≠ L) (ho : h.get? d = some od) : News (noObjs h) L h ([] ++ (d, od) :: ledger h L d) := by
  rintro ⟨a, o⟩ hp
  rcases List.mem_cons.mp hp with e | hp
  · cases e
    exact ⟨ho, hne, noObjs_get _ _⟩
  · obtain ⟨n1, n2, e⟩ := mem_ledger.mp hp
    exact ⟨e, n1, noObjs_get _ _⟩
theorem fr_all {h : Heap} {L : Addr} {m : Str → Option Value} (n : h.Ns L m) : Fr (noObjs h) L h m :=
  ⟨n, fun b o e => (by rw [noObjs_get] at e; cases e), Nat.zero_le _⟩
/-- Upd of the head entry (for append_K, setItem_K ..) -/
theorem upd_ledger {h : Heap} {L d : Addr} {o o' : Obj} : Upd d o o' ((d, o) :: ledger h L d) ((d, o') :: ledger h L d) :=
  .head fun ⟨_, _⟩ hp => (mem_ledger.mp hp).2.1

/-- x.name = v over any heap: L is any namespace of the heap (the frame's, say): its map stays, its object is not told; all else but the dict stays -/
theorem set_field {x C dx L : Addr} {ox : Obj} {m : Str → Option Value} {es es' : List DictEntry} {n n' : Nat} {name : Str} {v : Value} {Q : Unit → Shared → Prop}
    (X : K.In s.heap) (I : PySem.W.InstAt s.heap x ox C (some (dictOf es n))) (hd : ox.dict = some dx) (hL : s.heap.Ns L m) (hne : dx ≠ L)
    (hs : findIn K (.ref C) "__setattr__" = some (some (.builtin "object.__setattr__"))) (hp : plainOver K C = true) (ht : takerIn K C name = some none) (hh : hasDictIn K C = true) (hl : (getL name es).isSome = true)
    (e : (putL name (PyData.keyHash w.params name) (.str name (s.toks + 1)) v es, putN name es n) = (es', n')) (hz : es'.length ≤ 1000)
    (h : ∀ h' : Heap, h'.Ns L m → h'.get? dx = some (dictOf es' n') → (∀ b o, b ≠ dx → b ≠ L → s.heap.get? b = some o → h'.get? b = some o) → Q () { s with heap := h', toks := s.toks + 2 }) :
    wpAny (model prog w) A (setAttr (.ref x) name v) Q E s := by
  obtain ⟨e1, e2⟩ := Prod.mk.inj e
  have hdx : s.heap.get? dx = some (dictOf es n) := by
    have := I.dict
    rw [hd] at this
    exact this
  refine set_plain X I hs (osa_dict (s := { s with toks := s.toks + 1 }) (h₀ := noObjs s.heap) (L := L) (m := m) (od := dictOf es n) (od' := dictOf es' n') (es := es') (n := n') (pre := []) (post := ledger s.heap L dx)
    (fr_all hL) (news_ledger hne hdx) X I hd hp ht hh hl (fun _ q => nomatch q) (fun ⟨_, _⟩ q => (mem_ledger.mp q).2.1) (by rw [putName_dict, e1, e2]) rfl hz fun h' F' N' => ?_)
  exact h h' F'.ns (N'.get (List.Mem.head _)) fun b o n1 n2 ho => N'.get (List.Mem.tail _ (mem_ledger.mpr ⟨n2, n1, ho⟩))
end
end Att

namespace L2
open PySem PySem.Spec PyProof.Rows

theorem vals_ints : ∀ {vs : List Value} {ns : List Int}, IntsAre vs ns → Vals (ns.map V.int) vs
  | _, _, .nil => .nil
  | _, _, .cons n t h => .cons ⟨t, rfl⟩ (vals_ints h)

/-- nothing is tracked but the script, known to the object (or it is an object of the module) -/
def Only (H : Hp) : Prop := ∀ b, H b = none ∨ ∃ o xs, H b = some (.frz o (.lst xs))

/-- THE HEAD: the law's promise, at the heap behind the top. F, the promise of the law's def, may use that base is part of the heap (so K.In base, base.Ns mainGlobals mg stand in Mod) -/
theorem law_call {P : Program} {w : World} {K : PySem.W.Frag} {mg mb : Str → Option Value} {CX : CXT} {k : Nat} {fa a : Addr} {fd : FuncData} {x : Str} {sp : Sp} {s₁ : Shared} {vs : List Value} {ns : List Int}
    (KX : K.In s₁.heap) (hns : s₁.heap.Ns mainGlobals mg) (hb : s₁.heap.Ns builtinsNs mb) (hbb : ∀ x : Str, x ≠ "__name__" → mb x = bootBuiltins x) (hlim : s₁.heap.NoLimit) (hg : s₁.gens = #[])
    (ha : s₁.heap.get? a = some { cls := .type "list", data := .seq vs.toArray }) (hi : IntsAre vs ns) (hl : ns.length ≤ sizeLine) (hr : Room k callerA)
    (F : ∀ base : Heap, K.In base → base.Ns mainGlobals mg → FnOk P w K mg base CX k fa fd [x] sp) (hbind : ∀ (s : Shared) (u : Value), BindsTo s fd ⟨[u], []⟩ [(x, u)])
    (hsp : ∀ H : Hp, Only H → SqL K H a (ns.map V.int) → sp [.ref a] H (fun v _ => v = .bl true) fun _ _ _ => False)
    (hCX : ∀ H e s', CX [] H s₁ (fun _ _ _ => False) e s' → False) :
    codeAny (model P w) callerA (.call (.ref fa) ⟨[.ref a], []⟩) (fun r s' => r = .ok (.ret (.bool true)) ∧ OldK s₁.heap s'.heap ∧ s'.os = s₁.os ∧ AllBare s'.gens) s₁ := by
  have rv := vals_ints hi
  have lenV := hi.length
  -- from an abstract heap in which nothing but the script may be tracked
  have core : ∀ H : Hp, Only H → SqL K H a (ns.map V.int) → HOk P w H s₁.heap → (∀ b, H b ≠ none → b = a) → (H a ≠ none → K.lookup a = none) →
      codeAny (model P w) callerA (.call (.ref fa) ⟨[.ref a], []⟩) (fun r s' => r = .ok (.ret (.bool true)) ∧ OldK s₁.heap s'.heap ∧ s'.os = s₁.os ∧ AllBare s'.gens) s₁ := by
    intro H hO hS hok hA hK
    have base_of : ∀ {b : Addr} {o : Obj}, s₁.heap.get? b = some o → H b = none → (hidT s₁.heap H).get? b = some o := fun e n => hidT_get e n
    have noA : ∀ {b : Addr} {o : Obj} {es : Array DictEntry} {ep : Nat}, s₁.heap.get? b = some o → o.data = .dict es ep → H b = none := fun {b o es ep} e d => by
      cases q : H b with
      | none => rfl
      | some u =>
        have e' : b = a := hA b (by rw [q]; simp)
        subst e'
        rw [ha] at e; cases e
        have d' : Data.seq vs.toArray _ = Data.dict es ep := d
        cases d'
    have nsK : ∀ {b : Addr} {m : Str → Option Value}, s₁.heap.Ns b m → (hidT s₁.heap H).Ns b m := fun {b m} ⟨o, es, ep, e, d, r⟩ => ⟨o, es, ep, base_of e (noA e d), d, r⟩
    have hKb : K.In (hidT s₁.heap H) := fun b o e => base_of (KX b o e) (by
      cases q : H b with
      | none => rfl
      | some u =>
        have e' : b = a := hA b (by rw [q]; simp)
        subst e'
        rw [hK (by rw [q]; simp)] at e; cases e)
    have hM : Mod K mg (hidT s₁.heap H) := ⟨hKb, nsK hns, ⟨mb, nsK hb, hbb⟩, let ⟨mc, h1, h2⟩ := hlim; ⟨mc, nsK h1, h2⟩⟩
    have e0 : Env0 P w K mg (hidT s₁.heap H) callerA [] s₁ H := ⟨rfl, hM, fun b o e => of_hidT e, Nat.le_of_eq (hidT_size _ _), trivial, fun b hb => absurd (show b ∈ ([] : List Addr) from hb) (by simp), hok, .of_eq hg⟩
    refine codeAny_mono ((F _ hKb (nsK hns)).run callerA [] s₁ H ⟨[.ref a], []⟩ [.ref a] [.ref a] _ _ hr e0 (hbind s₁ (.ref a)) (.cons rfl .nil) (hsp H hO hS)) fun r s' h => ?_
    cases r with
    | error e => exact (hCX H e s' h).elim
    | ok fl =>
      cases fl with
      | next => exact False.elim h
      | brk => exact False.elim h
      | cont => exact False.elim h
      | ret u =>
        obtain ⟨v, H', os, bare, un, hok', r', q⟩ := h
        have q' : v = .bl true := q
        subst q'
        obtain rfl : u = Value.bool true := r'
        refine ⟨rfl, OldK.of_keep fun b o e => ?_, os, bare⟩
        cases q : H b with
        | none => exact un.keep b o e q (by intro z; exact absurd (show b ∈ ([] : List Addr) from z) (by simp)) (by simp)
        | some u =>
          rcases hO b with z | ⟨ob, xs, z⟩
          · rw [q] at z; cases z
          · have z2 := un.frzs b ob _ z
            obtain ⟨e1, _⟩ := hok b _ z
            obtain ⟨e2, _⟩ := hok' b _ z2
            rw [e] at e1; cases e1
            exact e2
  cases hk : K.lookup a with
  | some o =>
    -- the script is one of the module's own objects
    have e := KX a o hk
    rw [ha] at e
    cases e
    refine core (fun _ => none) (fun _ => .inl rfl) (.inr ⟨_, vs.toArray, _, hk, rfl, rfl, rfl, by rw [List.size_toArray, lenV]; exact hl, by simpa using rv⟩) (fun b u z => by have z' : (none : Option HO) = some u := z; cases z') (fun b z => absurd rfl z) fun z => absurd rfl z
  | none =>
    refine core (fun b => if b = a then some (.frz { cls := .type "list", data := .seq vs.toArray } (.lst (ns.map V.int))) else none) (fun b => ?_) (.inl (.inr ⟨{ cls := .type "list", data := .seq vs.toArray }, if_pos rfl⟩)) (fun b u z => ?_) (fun b z => ?_) fun _ => hk
    · by_cases hb : b = a
      · exact .inr ⟨_, _, if_pos hb⟩
      · exact .inl (if_neg hb)
    · by_cases hb : b = a
      · have z' := (if_pos hb).symm.trans z
        cases z'
        subst hb
        exact ⟨ha, by rw [List.length_map]; exact hl, vs, _, rv, ha⟩
      · have z' := (if_neg hb).symm.trans z
        cases z'
    · by_cases hb : b = a
      · exact hb
      · exact absurd (if_neg hb) z
end L2

namespace L2
open PySem PySem.Spec PyProof.Rows

abbrev KOf {K : PySem.W.Frag} {h : Heap} (_ : K.In h) : PySem.W.Frag := K

/-- the goal that k_head leaves (case hc), from the law's promise. F gives the function object fd (K's own) once, then the promise over every base -/
theorem walk_of {l : PySem.W.OpenLaw} {n k : Nat} {q : Program} {loose : List Str} {XP : (Str → Option Value) → Heap → Prop} {YP : World → Heap → Prop} {d : DefRec} {K : Params → PySem.W.Frag} {CX : World → CXT} {sp : World → Sp} {x : Str}
    (hn : l.most = some n) (hn2 : n ≤ sizeLine) (hdf : d.params.defaults = []) (hr : Room k callerA)
    (hY : ∀ (w : World) (h : Heap), YP w h → (K w.params).In h)
    (F : ∀ (w : World) (mg : Str → Option Value) (fa : Addr) (h : Heap), (K w.params).In h → h.Ns mainGlobals mg → mg d.name = some (.ref fa) →
      ∃ fd : FuncData, (∀ (s : Shared) (u : Value), BindsTo s fd ⟨[u], []⟩ [(x, u)]) ∧
        ∀ base : Heap, (K w.params).In base → base.Ns mainGlobals mg → FnOk l.prog w (K w.params) mg base (CX w) k fa fd [x] (sp w))
    (hsp : ∀ (w : World) (H : Hp) (a : Addr) (ns : List Int), ns.length ≤ n → Only H → SqL (K w.params) H a (ns.map V.int) → sp w [.ref a] H (fun v _ => v = .bl true) fun _ _ _ => False)
    (hCX : ∀ (w : World) (H : Hp) (s : Shared) (e : Value) (s' : Shared), CX w [] H s (fun _ _ _ => False) e s' → False) :
    PySem.W.WalkO q loose XP YP l.row.toRowW d [] (fun f vs => PySem.call f vs) := by
  refine Att.attach_call hn hdf fun w s₀ s₁ mg mb fa o pm cd doc a vs ns G Y ho hd hcd hmg hobj hints hlen hg => ?_
  have KX := hY w _ Y
  obtain ⟨fd, hb, hF⟩ := F w mg fa _ KX G.T.g hmg
  exact law_call KX G.T.g G.T.b G.T.builtins G.T.nolimit hg hobj hints (Nat.le_trans hlen hn2) hr hF hb (fun H hO hS => hsp w H a ns hlen hO hS) fun H e s' => hCX w H s₁ e s'
/-- the same where the promise hangs on the written part alone: (sp := My.sp_law), no hole under a binder -/
theorem walk_ofK {l : PySem.W.OpenLaw} {n k : Nat} {q : Program} {loose : List Str} {XP : (Str → Option Value) → Heap → Prop} {YP : World → Heap → Prop} {d : DefRec} {K : Params → PySem.W.Frag} {CX : CXT} {sp : PySem.W.Frag → Sp} {x : Str}
    (hn : l.most = some n) (hn2 : n ≤ sizeLine) (hdf : d.params.defaults = []) (hr : Room k callerA)
    (hY : ∀ (w : World) (h : Heap), YP w h → (K w.params).In h)
    (F : ∀ (w : World) (mg : Str → Option Value) (fa : Addr) (h : Heap), (K w.params).In h → h.Ns mainGlobals mg → mg d.name = some (.ref fa) →
      ∃ fd : FuncData, (∀ (s : Shared) (u : Value), BindsTo s fd ⟨[u], []⟩ [(x, u)]) ∧
        ∀ base : Heap, (K w.params).In base → base.Ns mainGlobals mg → FnOk l.prog w (K w.params) mg base CX k fa fd [x] (sp (K w.params)))
    (hsp : ∀ (K : PySem.W.Frag) (H : Hp) (a : Addr) (ns : List Int), ns.length ≤ n → Only H → SqL K H a (ns.map V.int) → sp K [.ref a] H (fun v _ => v = .bl true) fun _ _ _ => False)
    (hCX : ∀ (H : Hp) (s : Shared) (e : Value) (s' : Shared), CX [] H s (fun _ _ _ => False) e s' → False) :
    PySem.W.WalkO q loose XP YP l.row.toRowW d [] (fun f vs => PySem.call f vs) :=
  walk_of (K := K) (CX := fun _ => CX) (sp := fun w => sp (K w.params)) hn hn2 hdf hr hY F (fun w H a ns h1 h2 h3 => hsp (K w.params) H a ns h1 h2 h3) fun _ H s e s' => hCX H s e s'
end L2

/- THE LAST THEOREM (shape; LID, My.* are yours):
   My.Adr: a structure of the addresses that your layer names (classes, functions); My.Txt K t: a structure (Prop) of the equations over K;
   My.txt_mk : {K} {implicit addresses ..} (e1 : nsIn K mainGlobals "law" = some (some (.ref f))) (e2 : K.lookup f = some ⟨oc, od, .func (fnOf "law" "law" params body scope dV kV doc pm an cdv ct), sl⟩) (e3 : codeIn K cdv "law" = true) .. : ∃ t, My.Txt K t

set_option maxRecDepth 100000 in
set_option maxHeartbeats 0 in
theorem PySem.Challenge.cw_LID_holds : PySem.Challenge.rw_LID.Holds := by
  w_on; o_law; k_head; (case hw => w_witness2)
  k_fill
  refine L2.walk_of (l := PySem.Challenge.rw_LID) (n := 63) (k := 40) (x := "script") (CX := fun w => ..) (sp := fun _ => My.sp_law) rfl (by decide) rfl ⟨rfl, by decide, by decide⟩ (fun w h Y => PySem.W.kIn_of Y) ?F ?S ?C
  case F =>
    intro w mg fa h KX G hmg
    have T : ∃ t, My.Txt (L2.KOf KX) t := by
      dsimp only [L2.KOf]                          -- K must stand as «<heap const> w.params» for k_is
      refine' My.txt_mk ?e1 ?e2 ?e3 ..
      (case e1 => PySem.W.k_is)                    -- in the order: a name -> its address -> its object -> its parts
      (case e2 => PySem.W.k_is)
      ..
    obtain ⟨t, T⟩ := T
    have e0 := hmg.symm.trans (PySem.W.mg_of KX G T.law)
    cases e0                                       -- fa is the law's own address
    exact ⟨_, fun s u => .of_eq rfl, fun base kb nb => My.law_fn T kb nb⟩     -- if «.of_eq rfl» comes too early: refine' ⟨_, ?b, fun base kb nb => My.law_fn T kb nb⟩; exact fun s u => .of_eq rfl
  case S => exact fun w H a ns hl hO hS => ..
  case C => exact ..
(the tactic k_is has no namespace: write k_is) -/

/-! SHORT WORDS over the layer: a def of the text, its body, what a loop and a test want. -/
namespace L2
open PySem PySem.Spec PyProof.Rows

/-! ### the text by places -/
/-- the j-th statement of a class's body -/
def inClass (s : Stmt) (j : Nat) : Stmt := match s with
  | .ClassDef _ _ _ body _ _ _ _ _ _ _ => body.getD j (.Pass ⟨0, 0, 0, 0⟩)
  | _ => .Pass ⟨0, 0, 0, 0⟩
def defArgs (s : Stmt) : Arguments := match s with
  | .FunctionDef _ a _ _ _ _ _ _ _ _ => a
  | _ => { posonlyargs := [], args := [], vararg := none, kwonlyargs := [], kw_defaults := [], kwarg := none, defaults := [] }
def defBody (s : Stmt) : List Stmt := match s with
  | .FunctionDef _ _ b _ _ _ _ _ _ _ => b
  | _ => []
def defScope (s : Stmt) : Scope := match s with
  | .FunctionDef _ _ _ _ _ _ sc _ _ _ => sc
  | _ => { kind := .function, names := [], isGenerator := false, isCoroutine := false }

/-! ### no exception leaves a def -/
abbrev CX0 : CXT := fun _ _ _ _ _ _ => False
abbrev E0 : XK := fun _ _ _ => False
theorem pass0 {X : Cx} : Passes CX0 X E0 := fun _ _ _ _ _ _ _ h => h.elim

/-! ### a def (or method) of the text as it stands behind the top -/
structure Fun (K : PySem.W.Frag) (x qual : Str) (st : Stmt) (f : Addr) (fd : FuncData) : Prop where
  ex : ∃ (oc : Value) (od : Option Addr) (kV doc pm : Value) (an : Option Addr) (cdv ct : Value) (osl : Array (Option Value)),
    fd = PySem.W.fnOf x qual (defArgs st) (defBody st) (defScope st) .none kV doc pm an cdv ct ∧ K.lookup f = some ⟨oc, od, .func fd, osl⟩ ∧ PySem.W.codeIn K cdv qual = true
  kp : PySem.W.keepIn K (.ref f) = true
section
variable {P : Program} {w : World} {K : PySem.W.Frag} {mg : Str → Option Value} {base : Heap}
/-- THE RULE for a def: its body as a term of rules, and the reading of that term -/
theorem Fun.ok {x qual : Str} {st : Stmt} {f : Addr} {fd : FuncData} {N ps : List Str} {k : Nat} {sp : Sp} (F : Fun K x qual st f fd) (S : FnScope N ps (defScope st)) (len : ∀ vs H Q E, sp vs H Q E → vs.length = ps.length)
    (hbody : ∀ (cdv : Value) (A : Around) (outer : List Env) (s : Shared) (H : Hp) (vs : List V) (Q : VK) (E : XK), Room k (A.deeper (envOfC qual (defScope st) s.heap.objs.size f cdv)) → sp vs H Q E →
      ∃ t, PSs (cxOf CX0 P w K mg base N qual (defScope st) f cdv A outer s H E).nox (defBody st) t ∧ t { nx := fun _ H' => Q .non H', rt := Q } (start N vs) H) : FnOk P w K mg base CX0 (k + 1) f fd ps sp := by
  obtain ⟨oc, od, kV, doc, pm, an, cdv, ct, osl, rfl, lk, hcd⟩ := F.ex
  refine fn_of lk hcd S len fun A outer s H vs Q E hr hsp => ?_
  obtain ⟨t, h, q⟩ := hbody cdv A outer s H vs Q E hr hsp
  exact ⟨t, h.nox, q⟩
/-- how its arguments bind (no defaults): h is «fun _ _ _ _ _ _ us hl => match us, hl with | [_, _], _ => rfl», one _ a parameter -/
theorem Fun.binds {x qual : Str} {st : Stmt} {f : Addr} {fd : FuncData} {ps : List Str} (F : Fun K x qual st f fd)
    (h : ∀ (kV doc pm : Value) (an : Option Addr) (cdv ct : Value) (us : List Value), us.length = ps.length → bindArgs (PySem.W.fnOf x qual (defArgs st) (defBody st) (defScope st) .none kV doc pm an cdv ct) ⟨us, []⟩ = pure (ps.zip us)) : Binds K fd ps [] := by
  obtain ⟨oc, od, kV, doc, pm, an, cdv, ct, osl, rfl, lk, hcd⟩ := F.ex
  exact .all (h kV doc pm an cdv ct)
theorem fun_mk {x qual : Str} {st : Stmt} {f : Addr} {oc : Value} {od an : Option Addr} {osl : Array (Option Value)} {kV doc pm cdv ct : Value} (l : K.lookup f = some ⟨oc, od, .func (PySem.W.fnOf x qual (defArgs st) (defBody st) (defScope st) .none kV doc pm an cdv ct), osl⟩)
    (c : PySem.W.codeIn K cdv qual = true) (k : PySem.W.keepIn K (.ref f) = true) : Fun K x qual st f (PySem.W.fnOf x qual (defArgs st) (defBody st) (defScope st) .none kV doc pm an cdv ct) := ⟨⟨oc, od, kV, doc, pm, an, cdv, ct, osl, rfl, l, c⟩, k⟩
end
theorem hu_of {A : Around} {k : Nat} (hr : Room k A) : A.units + 1 < cLine := Nat.lt_of_le_of_lt (Nat.add_le_add_left (by decide : 1 ≤ 64) _) hr.units
theorem small1000 {n : Nat} (h : n ≤ 1000) : n < sizeLine := Nat.lt_of_le_of_lt h (by decide)

/-! ### expressions in short: the name that stands in the i-th slot -/
section
variable {X : Cx}
theorem pv (i : Nat) {x : Str} {pos : Pos} (hN : X.N[i]? = some x := by rfl) (hv : Vis X.env.scope x := by first | exact Or.inl rfl | exact Or.inr (Or.inl rfl) | exact Or.inr (Or.inr rfl)) (hd : (x == ("__debug__" : Str)) = false := by decide)
    (hcd : (x == ("__classdict__" : Str)) = false := by decide) : PE X (.Name x pos) (tVar i) := pe_var hN hv hd hcd
end

/-! ### tests -/
theorem iteF {A B : Prop} (h : B) : if false = true then A else B := by
  rw [if_neg Bool.false_ne_true]
  exact h
theorem iteT {A B : Prop} (h : A) : if true = true then A else B := by
  rw [if_pos rfl]
  exact h
theorem ite2 {c A B : Prop} [Decidable c] (h1 : c → A) (h2 : ¬ c → B) : if c then A else B := by
  by_cases h : c
  · rw [if_pos h]
    exact h1 h
  · rw [if_neg h]
    exact h2 h
theorem iteNS {c A B : Prop} [Decidable c] (hc : c) (h : B) : if (!decide c) = true then A else B := by
  rw [decide_eq_true hc]
  exact iteF h

/-! ### heaps -/
/-- all that was tracked is as it was -/
def Same (H H' : Hp) : Prop := ∀ b o, H b = some o → H' b = some o
theorem Same.refl (H : Hp) : Same H H := fun _ _ h => h
theorem Same.trans {H H1 H2 : Hp} (a : Same H H1) (b : Same H1 H2) : Same H H2 := fun c o h => b c o (a c o h)
theorem Same.free {H H' : Hp} (e : Same H H') {l : Addr} (h : H' l = Option.none) : H l = Option.none := by
  cases q : H l with
  | none => rfl
  | some o =>
    rw [e l o q] at h
    cases h
theorem Same.seq {K : PySem.W.Frag} {H H' : Hp} {a : Addr} {xs : List V} (e : Same H H') (h : SqL K H a xs) : SqL K H' a xs := by
  rcases h with (h | ⟨o, h⟩) | h
  · exact .inl (.inl (e _ _ h))
  · exact .inl (.inr ⟨o, e _ _ h⟩)
  · exact .inr h

end L2

set_option linter.all false
set_option maxRecDepth 100000
set_option maxHeartbeats 4000000
namespace PySem.SeqAt
open AutoSeq1 (wpAny_loadPart')
open MeetsSeq MeetsSeq2 MeetsSeq3 SeqRoads2
theorem remove_loopAt (l : Addr) (items : Array Value) (n : Nat) (x : Value) (e : Value → Bool) (j : Nat) (hj : j < items.size) (hit : e items[j] = true) (k : Nat) (hs1 : items.size ≤ sizeLine) :
    ∀ i : Nat, j - i = k → i ≤ j → (∀ m (hm : m < items.size), i ≤ m → m < j → e items[m] = false) → Meets (Builtin.«list.remove.loop» ⟨[.ref l, x, rawInt i], []⟩)
      (fun A R s => s.heap.get? l = some { cls := .type "list", dict := none, data := .seq items n, slots := #[] } ∧ (∀ y, y ∈ items → EqAt A.in1 s y x (e y)) ∧ R (.ok (.ret .none)) { s with heap := s.heap.update l (Obj.mapSeq fun xs => xs.eraseIdxIfInBounds j) }) := by
  induction k with
  | zero =>
    intro i hk hij hno prog w A R s h
    obtain ⟨hp, g, d, tk, os⟩ := s; obtain ⟨hl, he, h⟩ := h
    have hij' : i = j := by omega
    subst hij'
    wp_walk using wpAny_loadPart' hl
    have hi : items[((i : Nat) : Int).toNat]? = some items[i] := by simp [hj]
    rw [hi]
    refine wpAny_bind (he _ (Array.getElem_mem hj) prog w _ _ ?_)
    rw [hit]
    have hz' : (items.eraseIdxIfInBounds i).size ≤ sizeLine + 1 := Nat.le_trans (size_erased items _) (Nat.le_succ_of_le hs1)
    wp_walk using (wpAny_updateSeq hl rfl (hz := hs1) (_hz' := hz')), wpAny_loadPart' hl
    simpa using h
  | succ k ih =>
    intro i hk hij hno prog w A R s h
    obtain ⟨hp, g, d, tk, os⟩ := s; obtain ⟨hl, he, h⟩ := h
    have hlt : i < items.size := by omega
    wp_walk using wpAny_loadPart' hl
    have hi : items[((i : Nat) : Int).toNat]? = some items[i] := by simp [hlt]
    have hc : ((i : Int) + 1) = ((i + 1 : Nat) : Int) := by push_cast; rfl
    rw [hi]
    refine wpAny_bind (he _ (Array.getElem_mem hlt) prog w _ _ ?_)
    rw [hno i hlt (Nat.le_refl _) (by omega)]
    wp_walk
    rw [hc]
    exact ⟨plainId_quiet plain_remove_loop _, codeAny_builtin entry_remove_loop (by
      rw [Around.under_plainId plain_remove_loop _]
      exact ih (i + 1) (by omega) (by omega) (fun m hm h1 h2 => hno m hm (by omega) h2) prog w A R _ ⟨hl, he, h⟩)⟩
theorem list_removeAt (l : Addr) (items : Array Value) (n : Nat) (x : Value) (e : Value → Bool) (j : Nat) (hj : j < items.size)
    (hit : e items[j] = true) (hno : ∀ m (hm : m < items.size), m < j → e items[m] = false) (hs1 : items.size ≤ sizeLine) :
    Meets (Builtin.«list.remove» ⟨[.ref l, x], []⟩)
      (fun A R s => s.heap.get? l = some { cls := .type "list", dict := none, data := .seq items n, slots := #[] } ∧ (∀ y, y ∈ items → EqAt A.in1 s y x (e y)) ∧ R (.ok (.ret .none)) { s with heap := s.heap.update l (Obj.mapSeq fun xs => xs.eraseIdxIfInBounds j) }) := by
  intro prog w A R s h
  obtain ⟨hp, g, d, tk, os⟩ := s; obtain ⟨hl, he, h⟩ := h
  wp_walk using wpAny_loadPart' hl
  exact ⟨plainId_quiet plain_remove_loop _, codeAny_builtin entry_remove_loop (by
    rw [Around.under_plainId plain_remove_loop _]
    exact remove_loopAt l items n x e j hj hit _ hs1 0 rfl (Nat.zero_le _) (fun m hm _ h2 => hno m hm h2) prog w A R _ ⟨hl, he, h⟩)⟩
theorem list_extend_tupleAt (l : Addr) (items : Array Value) (n : Nat) (b : Addr) (items2 : Array Value) (n2 : Nat) (dd : Option Addr) (sl : Array (Option Value)) (hs0 : ¬(!items.isEmpty && Builtin.List.listTooLong (items.size + items2.size)) = true) (hs1 : items.size ≤ sizeLine) (hs2 : items.size + items2.size ≤ sizeLine + 1) :
    Meets (Builtin.«list.extend» ⟨[.ref l, .ref b], []⟩) (fun _ R s => s.heap.get? l = some { cls := .type "list", dict := none, data := .seq items n, slots := #[] } ∧ s.heap.get? b = some { cls := .type "tuple", dict := dd, data := .seq items2 n2, slots := sl } ∧ R (.ok (.ret Value.none)) { s with heap := s.heap.update l (Obj.mapSeq fun x => x ++ items2), toks := s.toks }) :=
  .of_wp fun prog w A R s h => by
    obtain ⟨hp, g, d, tk, os⟩ := s; obtain ⟨hl, hb, h⟩ := h; have f1 := AutoSeq1.idx_int; have f2 := AutoSeq1.sub_tuple_tuple; have f3 := AutoSeq1.sub_list_list; have f4 := AutoSeq1.sub_tuple_list; have f5 := AutoSeq1.sub_list_tuple;
    have hz' : (items ++ items2).size ≤ sizeLine + 1 := by rw [Array.size_append]; exact hs2
    wp_walk using (wpAny_updateSeq hl rfl (hz := hs1) (_hz' := hz')), wpAny_loadPart' hl, wpAny_loadPart' hb; exact ⟨_, rfl, h⟩
end PySem.SeqAt
namespace L2
open PySem PySem.Spec PyProof.Rows
/-! ### flat values: less, alike -/
def ltV : V → V → Bool
  | .int a, .int b => decide (a < b)
  | .str a, .str b => decide (a.cps.toList < b.cps.toList)
  | _, _ => false
def alikeV : V → V → Bool
  | .int _, .int _ => true
  | .str _, .str _ => true
  | _, _ => false
def Alike : List V → List V → Prop
  | x :: xs, y :: ys => alikeV x y = true ∧ Alike xs ys
  | _, _ => True
def lexV : List V → List V → Bool
  | [], [] => false
  | [], _ :: _ => true
  | _ :: _, [] => false
  | x :: xs, y :: ys => if x = y then lexV xs ys else ltV x y
theorem lexV_cons (x y : V) (xs ys : List V) : lexV (x :: xs) (y :: ys) = if x = y then lexV xs ys else ltV x y := rfl
theorem alike_eqAt {A : Around} {s : Shared} {x y : V} {u v : Value} (rx : RelV x u) (ry : RelV y v) (h : alikeV x y = true) : SeqAt.EqAt A s u v (decide (x = y)) := by
  cases x with
  | int a =>
    cases y with
    | int b =>
      obtain ⟨t, rfl⟩ := rx
      obtain ⟨t', rfl⟩ := ry
      rw [dec_int]
      exact SeqAt.EqAt.int_int a t b t'
    | _ => cases h
  | str a =>
    cases y with
    | str b =>
      have e := eqAt_V (A := A) (s := s) rx ry rfl rfl
      rw [dec_str]
      exact e
    | _ => cases h
  | _ => cases y <;> cases h
theorem alike_lt {prog : Program} {w : World} {A : Around} {E : Value → Shared → Prop} {s : Shared} {x y : V} {u v : Value} {Q : Value → Shared → Prop} (rx : RelV x u) (ry : RelV y v) (h : alikeV x y = true) (q : Q (.bool (ltV x y)) s) :
    wpAny (model prog w) A (compareOp .Lt u v) Q E s := by
  cases x with
  | int a =>
    cases y with
    | int b =>
      obtain ⟨t, rfl⟩ := rx
      obtain ⟨t', rfl⟩ := ry
      exact lt_int q
    | _ => cases h
  | str a =>
    cases y with
    | str b =>
      obtain ⟨t, rfl⟩ := rx
      obtain ⟨t', rfl⟩ := ry
      exact lt_str q
    | _ => cases h
  | _ => cases y <;> cases h
section
open PySem.SeqAt
open PySem.AutoSeq1 (wpAny_loadPart')
open PySem.MeetsSeq PySem.MeetsSeq2 PySem.MeetsSeq3
theorem tuple_lt_V (l b : Addr) (items items2 : Array Value) (n n2 : Nat) (dd dd2 : Option Addr) (sl sl2 : Array (Option Value)) (xs ys : List V) (hi : Vals xs items.toList) (hj : Vals ys items2.toList) (ha : Alike xs ys) :
    Meets (Builtin.«tuple.__lt__» ⟨[.ref l, .ref b], []⟩)
      (fun _ R s => s.heap.get? l = some { cls := .type "tuple", dict := dd, data := .seq items n, slots := sl } ∧ s.heap.get? b = some { cls := .type "tuple", dict := dd2, data := .seq items2 n2, slots := sl2 } ∧
        R (.ok (.ret (.bool (lexV xs ys)))) s) :=
  .of_wp fun prog w A R s h => by
    obtain ⟨hp, g, d, tk, os⟩ := s; obtain ⟨hl, hb, h⟩ := h
    have f2 := AutoSeq1.sub_tuple_tuple
    have z1 : items.size = xs.length := by rw [hi.length]; simp
    have z2 : items2.size = ys.length := by rw [hj.length]; simp
    wp_walk using wpAny_loadPart' hl, wpAny_loadPart' hb, wpAny_forIn_list _ (fun rest b s' => b.1 = none ∧ s' = ⟨hp, g, d, tk, os⟩ ∧ ∃ (vs ws : List Value) (xs' ys' : List V), rest = vs.zip ws ∧
      Vals xs' vs ∧ Vals ys' ws ∧ Alike xs' ys' ∧ xs'.length + items2.size = ys'.length + items.size ∧ R (.ok (.ret (.bool (lexV xs' ys')))) ⟨hp, g, d, tk, os⟩) _
    case turn =>
      rintro ⟨y, x⟩ rest b s' ⟨hb', rfl, vs, ws, xs', ys', hz, hvi, hwi, hal, hlen, hR⟩
      cases hvi with
      | nil => rw [List.zip_nil_left] at hz; cases hz
      | @cons xa ua xr ur ra hvi' =>
        cases hwi with
        | nil => rw [List.zip_nil_right] at hz; cases hz
        | @cons ya va yr vr rc hwi' =>
          rw [List.zip_cons_cons] at hz
          injection hz with hyx hrest
          injection hyx with hy hx
          subst hy hx
          rw [lexV_cons] at hR
          simp only [List.length_cons] at hlen
          refine wpAny_bind (alike_eqAt ra rc hal.1 prog w _ _ ?_)
          by_cases e : xa = ya
          · rw [if_pos e] at hR
            rw [decide_eq_true e]
            wp_walk
            exact ⟨rfl, rfl, _, _, _, _, hrest, hvi', hwi', hal.2, by omega, hR⟩
          · rw [if_neg e] at hR
            rw [decide_eq_false e]
            have hri : ∀ (E : Value → Shared → Prop) (Q : Value → Shared → Prop), Q (.bool (ltV xa ya)) ⟨hp, g, d, tk, os⟩ → wpAny (model prog w) A.in1 (richCompare .Lt _ _) Q E ⟨hp, g, d, tk, os⟩ := fun E Q q => alike_lt (A := A.in1) ra rc hal.1 q
            wp_walk using hri
            exact ⟨_, rfl, by simpa using hR⟩
    case fin =>
      rintro ⟨b1, b2⟩ s' ⟨hb', rfl, vs, ws, xs', ys', hz, hvi, hwi, hal, hlen, hR⟩
      simp only at hb'
      subst hb'
      have hv : lexV xs' ys' = decide (items.size < items2.size) := by
        cases hvi with
        | nil =>
          cases hwi with
          | nil =>
            simp only [List.length_nil] at hlen
            show false = _
            exact (decide_eq_false (by omega)).symm
          | cons rc hw =>
            simp only [List.length_nil, List.length_cons] at hlen
            show true = _
            exact (decide_eq_true (by omega)).symm
        | cons ra hv =>
          cases hwi with
          | nil =>
            simp only [List.length_nil, List.length_cons] at hlen
            show false = _
            exact (decide_eq_false (by omega)).symm
          | cons rc hw =>
            rw [List.zip_cons_cons] at hz
            cases hz
      rw [hv] at hR
      wp_walk
      exact ⟨_, rfl, by simpa [Builtin.Tuple.tupleCompareSizes] using hR⟩
    case h =>
      exact ⟨rfl, rfl, items.toList, items2.toList, xs, ys, rfl, hi, hj, ha, by omega, h⟩
end
section
variable {X : Cx}
theorem lt_tupV {prog : Program} {w : World} {A : Around} {E : Value → Shared → Prop} {s : Shared} {l b : Addr} {items items2 : Array Value} {xs ys : List V} {Q : Value → Shared → Prop} (hl : IsTup s.heap l items) (hb : IsTup s.heap b items2) (hi : Vals xs items.toList) (hj : Vals ys items2.toList)
    (ha : Alike xs ys) (hu : A.units < cLine) (h : Q (.bool (lexV xs ys)) s) : wpAny (model prog w) A (compareOp .Lt (.ref l) (.ref b)) Q E s := by
  obtain ⟨⟨cls, dd, data, sl⟩, ho, hc, n, hd⟩ := id hl
  obtain ⟨⟨cls2, dd2, data2, sl2⟩, ho2, hc2, n2, hd2⟩ := id hb
  simp only at hc hd hc2 hd2
  subst hc hd hc2 hd2
  exact richCompare_meets_room (op := .Lt) ⟨_, ho, rfl⟩ ⟨_, ho2, rfl⟩ PySem.F.slot_tuple_lt PySem.F.entry_tuple_lt (PySem.F.args_tuple_lt_2 _ _) (tuple_lt_V l b items items2 n n2 dd dd2 sl sl2 xs ys hi hj ha)
    ⟨ho, ho2, show Value.bool (lexV xs ys) ≠ Value.notImplemented ∧ Q (.bool (lexV xs ys)) s from ⟨(fun x => nomatch x), h⟩⟩ hu
def rLtV (K : PySem.W.Frag) : R2 := fun x y H Q => ∃ a b xs ys, x = .ref a ∧ y = .ref b ∧ SqT K H a xs ∧ SqT K H b ys ∧ Alike xs ys ∧ Q (.bl (lexV xs ys)) H
theorem op_ltTV (hu : X.A.units < cLine) : OpR X (compareOp .Lt) (rLtV X.K) := by
  intro pins s σ H x y v u Q I rx ry h
  obtain ⟨a, b, xs, ys, rfl, rfl, ha, hb, hal, q⟩ := h
  cases rx
  cases ry
  obtain ⟨its, r, p, _⟩ := I.tuple ha
  obtain ⟨its2, r2, p2, _⟩ := I.tuple hb
  exact lt_tupV p p2 (by simpa using r) (by simpa using r2) hal hu (fin_bl I q rfl)
/-! ### flat values compared: < <= > >= of ints, of texts -/
def rCmpV (f : V → V → Bool) : R2 := fun x y H Q => alikeV x y = true ∧ Q (.bl (f x y)) H
theorem op_gtV : OpR X (compareOp .Gt) (rCmpV fun x y => ltV y x) := by
  intro pins s σ H x y v u Q I rx ry h
  obtain ⟨hs, q⟩ := h
  cases x with
  | int a =>
    cases y with
    | int b => obtain ⟨t, rfl⟩ := rx; obtain ⟨t', rfl⟩ := ry; exact gt_int (fin_bl I q rfl)
    | _ => cases hs
  | str a =>
    cases y with
    | str b => obtain ⟨t, rfl⟩ := rx; obtain ⟨t', rfl⟩ := ry; exact PySem.P.gt_str (fin_bl I q rfl)
    | _ => cases hs
  | _ => cases y <;> cases hs
theorem op_geV : OpR X (compareOp .GtE) (rCmpV fun x y => !ltV x y) := by
  intro pins s σ H x y v u Q I rx ry h
  obtain ⟨hs, q⟩ := h
  cases x with
  | int a =>
    cases y with
    | int b => obtain ⟨t, rfl⟩ := rx; obtain ⟨t', rfl⟩ := ry; exact ge_int (fin_bl I q (by show (!decide (a < b)) = decide (b ≤ a); by_cases z : a < b <;> simp [z] <;> omega))
    | _ => cases hs
  | str a =>
    cases y with
    | str b => obtain ⟨t, rfl⟩ := rx; obtain ⟨t', rfl⟩ := ry; exact PySem.P.ge_str (fin_bl I q rfl)
    | _ => cases hs
  | _ => cases y <;> cases hs
theorem op_leV : OpR X (compareOp .LtE) (rCmpV fun x y => !ltV y x) := by
  intro pins s σ H x y v u Q I rx ry h
  obtain ⟨hs, q⟩ := h
  cases x with
  | int a =>
    cases y with
    | int b => obtain ⟨t, rfl⟩ := rx; obtain ⟨t', rfl⟩ := ry; exact le_int (fin_bl I q (by show (!decide (b < a)) = decide (a ≤ b); by_cases z : b < a <;> simp [z] <;> omega))
    | _ => cases hs
  | str a =>
    cases y with
    | str b => obtain ⟨t, rfl⟩ := rx; obtain ⟨t', rfl⟩ := ry; exact PySem.P.le_str (fin_bl I q rfl)
    | _ => cases hs
  | _ => cases y <;> cases hs
/-! ### list.insert -/
def rInsert : V → List V → Hp → VK → Prop := fun x vs H Q => ∃ l xs y, ∃ i : Int, x = .ref l ∧ vs = [.int i, y] ∧ H l = some (.lst xs) ∧ xs.length < sizeLine ∧ 0 ≤ i ∧ i ≤ xs.length ∧ Q .non (upd H l (.lst (xs.take i.toNat ++ y :: xs.drop i.toNat)))
theorem mt_insert : MtM X "list.insert" rInsert := by
  intro pins s σ H x vs v us Q I rx rv h
  obtain ⟨l, xs, y, i, rfl, rfl, hH, hz, hi0, hi, q⟩ := h
  cases rx
  obtain ⟨u1, u2, rfl, ru1, ru2⟩ := rv.two
  obtain ⟨t, rfl⟩ := ru1
  obtain ⟨z, its, n, r, hl, e⟩ := I.lstM hH
  have l63 := line63
  have h1 : -(2 ^ 63) ≤ i := by omega
  have h2 : i < 2 ^ 63 := by omega
  have hf : ¬ (!Builtin.List.listFitsIndex i) = true := by
    rw [fitsIndex_both h1 h2]
    exact Bool.false_ne_true
  have hsz : its.toArray.size ≤ sizeLine := by rw [List.size_toArray]; omega
  refine call_meets F.slot_list_insert ⟨_, e, rfl⟩ F.entry_list_insert (F.args_list_insert_3 _ _ _) (AutoSeq1.list_insert_list_int_val_1 l its.toArray n i t u2 hf hsz) ⟨e, ?_⟩
  refine ⟨.non, _, I.lset (its' := its.take i.toNat ++ u2 :: its.drop i.toNat) hH e ?_ (Vals.append (r.take i.toNat) (.cons ru2 (r.drop i.toNat))) ?_, rfl, q⟩
  · show (its.toArray.extract 0 (if i < 0 then (i + (its.toArray.size : Int)).toNat else min i.toNat its.toArray.size)).push u2 ++ its.toArray.extract (if i < 0 then (i + (its.toArray.size : Int)).toNat else min i.toNat its.toArray.size) = _
    rw [if_neg (by omega), List.size_toArray, Nat.min_eq_left (by omega)]
    simp [List.extract_eq_drop_take]
    exact List.take_of_length_le (by simp)
  · simp only [List.length_append, List.length_cons, List.length_take, List.length_drop]
    omega
/-! ### x == [] and x != [] of a list -/
def rEqNil (K : PySem.W.Frag) (neg : Bool) : R2 := fun x y H Q => ∃ l b xs, x = .ref l ∧ y = .ref b ∧ SqL K H l xs ∧ H b = some (.lst []) ∧ Q (.bl (if neg then !xs.isEmpty else xs.isEmpty)) H
theorem op_eqNil (hu : X.A.units < cLine) : OpR X (compareOp .Eq) (rEqNil X.K false) := by
  intro pins s σ H x y v u Q I rx ry h
  obtain ⟨l, b, xs, rfl, rfl, hl, hb, q⟩ := h
  cases rx
  cases ry
  obtain ⟨its, r, p, _⟩ := I.list hl
  obtain ⟨its2, r2, p2, _⟩ := I.list (SqL.of hb : SqL X.K H b [])
  cases r2
  cases xs with
  | nil =>
    cases r
    exact SeqAt.eq_listAt (e := fun _ => true) p.isList p2.isList rfl hu (fun j h1 _ => by simp at h1) (fin_bl I q (by simp))
  | cons a t =>
    cases r with
    | cons ra rt => exact SeqAt.eq_list_lengthsAt p.isList p2.isList (by simp) hu (fin_bl I q rfl)
theorem op_neNil (hu : X.A.units < cLine) : OpR X (compareOp .NotEq) (rEqNil X.K true) := by
  intro pins s σ H x y v u Q I rx ry h
  obtain ⟨l, b, xs, rfl, rfl, hl, hb, q⟩ := h
  cases rx
  cases ry
  obtain ⟨its, r, p, _⟩ := I.list hl
  obtain ⟨its2, r2, p2, _⟩ := I.list (SqL.of hb : SqL X.K H b [])
  cases r2
  cases xs with
  | nil =>
    cases r
    exact SeqAt.RcNeAt.lists (A := X.A) (s := s) (e := fun _ => true) p.isList p2.isList rfl hu (fun j h1 _ => by simp at h1) _ _ _ _ (fin_bl I q (by simp))
  | cons a t =>
    cases r with
    | cons ra rt => exact SeqAt.RcNeAt.lists_lengths (A := X.A) (s := s) p.isList p2.isList (by simp) hu _ _ _ _ (fin_bl I q rfl)
/-! ### two lists of one content, all of it objects: != is False -/
theorem refs_vals : ∀ {as : List Addr} {its : List Value}, Vals (as.map V.ref) its → its = as.map Value.ref
  | [], _, .nil => rfl
  | a :: r, _, .cons h t => by
    obtain rfl := (show _ = Value.ref a from h)
    rw [refs_vals t, List.map_cons]
def rNeSame (K : PySem.W.Frag) : R2 := fun x y H Q => ∃ l b, ∃ as : List Addr, x = .ref l ∧ y = .ref b ∧ SqL K H l (as.map V.ref) ∧ SqL K H b (as.map V.ref) ∧ Q (.bl false) H
theorem all_true {n : Nat} : (List.range n).all (fun _ => true) = true := by simp
theorem op_neSame (hu : X.A.units < cLine) : OpR X (compareOp .NotEq) (rNeSame X.K) := by
  intro pins s σ H x y v u Q I rx ry h
  obtain ⟨l, b, as, rfl, rfl, hl, hb, q⟩ := h
  cases rx
  cases ry
  obtain ⟨its, r, p, _⟩ := I.list hl
  obtain ⟨its2, r2, p2, _⟩ := I.list hb
  have e1 := refs_vals r
  have e2 := refs_vals r2
  subst e1 e2
  exact SeqAt.RcNeAt.lists (A := X.A) (s := s) (e := fun _ => true) p.isList p2.isList rfl hu (fun j h1 _ => SeqAt.EqAt.same _) _ _ _ _ (fin_bl I q (by rw [all_true]; rfl))
/-- .. the objects of which are lists of one content each -/
def rNeSame2 (K : PySem.W.Frag) : R2 := fun x y H Q => ∃ l b, ∃ ls ks : List Addr, x = .ref l ∧ y = .ref b ∧ SqL K H l (ls.map V.ref) ∧ SqL K H b (ks.map V.ref) ∧ Paired (fun p q => ∃ as : List Addr, SqL K H p (as.map V.ref) ∧ SqL K H q (as.map V.ref)) ls ks ∧ Q (.bl false) H
theorem pairedAt {α β : Type} {F : α → β → Prop} : ∀ {l₁ : List α} {l₂ : List β} (j : Nat) (h1 : j < l₁.length) (h2 : j < l₂.length), Paired F l₁ l₂ → F l₁[j] l₂[j]
  | _, _, 0, _, _, .cons h _ => h
  | _, _, j + 1, h1, h2, .cons _ t => pairedAt j (by simpa using h1) (by simpa using h2) t
theorem op_neSame2 (hu : X.A.units + 1 < cLine) : OpR X (compareOp .NotEq) (rNeSame2 X.K) := by
  intro pins s σ H x y v u Q I rx ry h
  obtain ⟨l, b, ls, ks, rfl, rfl, hl, hb, hp, q⟩ := h
  cases rx
  cases ry
  obtain ⟨its, r, p, _⟩ := I.list hl
  obtain ⟨its2, r2, p2, _⟩ := I.list hb
  have e1 := refs_vals r
  have e2 := refs_vals r2
  subst e1 e2
  have hlen := hp.length
  refine SeqAt.RcNeAt.lists (A := X.A) (s := s) (e := fun _ => true) p.isList p2.isList (by simp [hlen]) (by omega) (fun j h1 h2 => ?_) _ _ _ _ (fin_bl I q (by rw [all_true]; rfl))
  have h1' : j < ls.length := by simpa using h1
  have h2' : j < ks.length := by simpa using h2
  obtain ⟨as, ha, hk⟩ := pairedAt j h1' h2' hp
  obtain ⟨ia, ra, pa, _⟩ := I.list ha
  obtain ⟨ik, rk, pk, _⟩ := I.list hk
  have e1 := refs_vals ra
  have e2 := refs_vals rk
  subst e1 e2
  simp only [List.getElem_toArray, List.getElem_map]
  by_cases e : ls[j] = ks[j]
  · rw [e]; exact SeqAt.EqAt.same _
  · refine SeqAt.EqAt.of_refs e ?_
    have z := SeqAt.RcAt.lists (A := X.A.in1) (s := s) (e := fun _ => true) pa.isList pk.isList rfl (by first | exact hu | (show X.A.units + 1 < cLine; exact hu) | simpa using hu) (fun j h1 _ => SeqAt.EqAt.same _)
    rw [all_true] at z
    exact z
/-! ### list.extend by a tuple -/
def rExtendT (K : PySem.W.Frag) : V → List V → Hp → VK → Prop := fun x vs H Q => ∃ l b xs zs, x = .ref l ∧ vs = [.ref b] ∧ H l = some (.lst xs) ∧ H b = some (.tup zs) ∧ xs.length + zs.length ≤ sizeLine ∧ Q .non (upd H l (.lst (xs ++ zs)))
theorem mt_extendT : MtM X "list.extend" (rExtendT X.K) := by
  intro pins s σ H x vs v us Q I rx rv h
  obtain ⟨l, b, xs, zs, rfl, rfl, hH, hB, hz, q⟩ := h
  cases rx
  obtain ⟨u, rfl, ru⟩ := rv.one
  cases ru
  obtain ⟨z, its, n, r, hl, e⟩ := I.lstM hH
  obtain ⟨z2, its2, r2, ⟨cls2, dd2, data2, sl2⟩, ho2, hc2, n2, hd2⟩ := I.hok b _ hB
  simp only at hc2 hd2
  subst hc2 hd2
  have hl2 := r2.length
  have hsz : its.toArray.size + its2.toArray.size ≤ sizeLine := by rw [List.size_toArray, List.size_toArray]; omega
  have hlong : ¬ (!its.toArray.isEmpty && Builtin.List.listTooLong (its.toArray.size + its2.toArray.size)) = true := by
    rw [notLongL hsz, Bool.and_false]
    exact Bool.false_ne_true
  refine call_meets F.slot_list_extend ⟨_, e, rfl⟩ F.entry_list_extend (F.args_list_extend_2 _ _)
    (PySem.SeqAt.list_extend_tupleAt l its.toArray n b its2.toArray n2 dd2 sl2 hlong (by rw [List.size_toArray]; omega) (by omega)) ⟨e, ho2, ?_⟩
  refine ⟨.non, _, I.lset (its' := its ++ its2) hH e (by simp) (r.append r2) ?_, rfl, q⟩
  rw [List.length_append]
  omega
/-! ### sum of a list of ints -/
theorem call_sumI (hc : X.calm = true) : CallR X (.builtin "sum") (fun xs H Q => ∃ p, ∃ ns : List Int, xs = [.ref p] ∧ SqL X.K H p (ns.map V.int) ∧ Q (.int ns.sum) H) := by
  intro pins s σ H xs us Q I rv h
  obtain ⟨p, ns, rfl, hp, q⟩ := h
  obtain ⟨u, rfl, ru⟩ := rv.one
  cases ru
  obtain ⟨its, r, pl, _⟩ := I.list hp
  have hi := intsAre_of r
  obtain ⟨zs, e⟩ := (IntsAre.allInts hi).items
  refine sum_intListG (I.ok.hd hc) (by rw [← e]; exact pl.isList) fun h' tk t' hk => ⟨.int ns.sum, H, I.kept (t' := tk) hk, ⟨t', ?_⟩, q⟩
  have e1 := nums_intItems zs
  rw [← e] at e1
  have e2 : numsOf its = ns := hi.numsOf
  have e3 : zs.toList.map (·.1) = ns := by rw [← e1, ← e2]
  rw [preSum_eq, List.take_of_length_le (by simp), e3]
end
end L2

set_option linter.all false
set_option maxRecDepth 100000
set_option maxHeartbeats 4000000
namespace L2
open PySem PySem.Spec PyProof.Rows
/-! ### a list comprehension, one for, at most one if -/
section
variable {prog : Program} {w : World} {A : Around} {R : Result → Shared → Prop} {s : Shared}
theorem compLoop_own {elt target iter : Expr} {ifs : List Expr} {scope : Scope} {pos : Pos} {it acc : Value} {env : Env} (I : Nat → Shared → Prop)
    (turn : ∀ n s, I n s → wpAny (model prog w) A (pyNext it) (fun r s₁ => match r with
      | none => R (.ok .next) s₁
      | some v => wpAny (model prog w) A (letOwnedTupleGo target it v) (fun _ s₀ => wpAny (model prog w) A (assign target env v) (fun _ s₂ =>
          wpAny (model prog w) A (forIn ifs true fun c r => if r = true then do let ok ← isTrue c env (eval c env); pure (ForInStep.yield ok) else pure (ForInStep.yield r)) (fun ok s₃ =>
            if ok = true then wpAny (model prog w) A (eval elt env) (fun x s₄ =>
              wpAny (model prog w) A (call (.builtin "list.append") [acc, x]) (fun _ s₅ => ∃ m, m < n ∧ I m s₅) (fun _ _ => False) s₄) (fun _ _ => False) s₃
            else ∃ m, m < n ∧ I m s₃) (fun _ _ => False) s₂) (fun _ _ => False) s₀) (fun _ _ => False) s₁) (fun _ _ => False) s)
    (n : Nat) (h : I n s) :
    codeAny (model prog w) A (.compLoop (.ListComp elt [⟨target, iter, ifs, 0⟩] scope pos) 0 it acc env) R s := by
  refine codeAny_loop rfl I (fun n s hI => ?_) n h
  show wpAny _ A ((compTurn (.ListComp elt [⟨target, iter, ifs, 0⟩] scope pos) 0 it acc env).onRaise (fun x => do noteFrame x env; theTreesLotGoes x)) _ _ s
  refine wpAny_noted ?_
  rw [compTurn_list]
  refine wpAny_bind (wpAny_standAt (wpAny_bind (wpAny_mono (turn n s hI) (fun r s₁ h₁ => ?_) fun _ _ h' => h'.elim)))
  cases r with
  | none => exact wpAny_pure h₁
  | some v =>
    refine wpAny_bind (wpAny_mono h₁ (fun _ s₀ h₀ => ?_) fun _ _ h' => h'.elim)
    refine wpAny_bind (wpAny_mono h₀ (fun _ s₂ h₂ => wpAny_bind (wpAny_mono h₂ (fun ok s₃ h₃ => ?_) fun _ _ h' => h'.elim)) fun _ _ h' => h'.elim)
    cases ok with
    | false => exact wpAny_pure ⟨rfl, h₃⟩
    | true =>
      exact wpAny_bind (wpAny_bind (wpAny_mono h₃ (fun x s₄ h₄ => wpAny_bind (wpAny_mono h₄ (fun _ s₅ h₅ => wpAny_pure (wpAny_pure ⟨rfl, h₅⟩)) fun _ _ h' => h'.elim)) fun _ _ h' => h'.elim))
end

/-- the cells of the free names -/
def clOf (env : Env) (fns : List Str) : List (Str × Addr) := fns.filterMap fun y => (env.cells.lookup y).map fun c => (y, c)
theorem clOf_some {env : Env} : ∀ {fns : List Str} {y : Str} {c : Addr}, (clOf env fns).lookup y = some c → env.cells.lookup y = some c ∧ y ∈ fns
  | [], _, _, h => by cases h
  | z :: r, y, c, h => by
    unfold clOf at h
    rw [List.filterMap_cons] at h
    cases e : env.cells.lookup z with
    | none =>
      simp only [e, Option.map_none] at h
      obtain ⟨a, b⟩ := clOf_some (fns := r) h
      exact ⟨a, List.mem_cons_of_mem _ b⟩
    | some d =>
      simp only [e, Option.map_some, List.lookup_cons] at h
      cases q : y == z with
      | true =>
        rw [q] at h
        have q' : y = z := eq_of_beq q
        subst q'
        cases h
        exact ⟨e, List.mem_cons_self ..⟩
      | false =>
        rw [q] at h
        obtain ⟨a, b⟩ := clOf_some (fns := r) h
        exact ⟨a, List.mem_cons_of_mem _ b⟩
theorem clOf_has {env : Env} : ∀ {fns : List Str} {y : Str} {c : Addr}, y ∈ fns → env.cells.lookup y = some c → (clOf env fns).lookup y = some c
  | z :: r, y, c, hy, hc => by
    unfold clOf
    rw [List.filterMap_cons]
    cases q : y == z with
    | true =>
      have q' : y = z := eq_of_beq q
      subst q'
      simp only [hc, Option.map_some, List.lookup_cons, beq_self_eq_true]
    | false =>
      have hy' : y ∈ r := by
        rcases List.mem_cons.mp hy with e | e
        · subst e; simp at q
        · exact e
      have ih := clOf_has (env := env) hy' hc
      cases e : env.cells.lookup z with
      | none => simp only [Option.map_none]; exact ih
      | some d => simp only [Option.map_some, List.lookup_cons, q]; exact ih

/-- the context of a comprehension's block -/
def cxComp (X : Cx) (scope : Scope) (fns : List Str) (N : List Str) (fp : List Addr) (pins : List (Addr × Obj)) (s : Shared) (H : Hp) : Cx where
  prog := X.prog
  w := X.w
  K := X.K
  mg := X.mg
  base := X.base
  A := X.A
  N := N
  s₀ := s
  H₀ := H
  env := compEnvC scope (clOf X.env fns) s.heap.objs.size X.env
  outer := X.stack
  stack := X.stack
  ex := fp
  fn := fun _ => false
  calm := X.calm
  pn := X.pn ++ pins
  xe := fun _ _ => False

/-- what is asked of the block's names: the walked name's kind; the free ones are cells of ours -/
structure CompSc (X : Cx) (scope : Scope) (x : Str) (fns : List Str) (js : List Nat) : Prop where
  kind : scope.kind = .function
  nocell : ∀ y ∈ scope.names, y.2 ≠ .cell
  locs : ∀ y ∈ scope.names, y.2 = .local → scope.names.lookup y.1 = some .local
  loc : scope.names.lookup x = some .local
  free : ∀ y ∈ scope.names, y.2 = .free → y.1 ∈ fns
  isfree : ∀ y ∈ fns, scope.names.lookup y = some .free
  clos : closureFor scope X.env = pure (clOf X.env fns)
  mine : ∀ y ∈ fns, X.env.kindOf y = some .cell
  js : js.map (fun j => X.N[j]?) = fns.map some
  nd : (x :: fns).Nodup

theorem lookup_relabel_free {env : Env} (hf : env.scope.kind = .function) : ∀ {names : List (Str × NameKind)} {x : Str}, names.lookup x = some .free → env.kindOf x = some .cell →
    (names.map fun (n, k) => if (k == NameKind.free && env.scope.kind == .function && env.kindOf n == some .cell) then (n, NameKind.cell) else (n, k)).lookup x = some .cell
  | [], _, h, _ => by cases h
  | (n, k) :: r, x, h, hk => by
    have ih := @lookup_relabel_free env hf r x
    simp only [List.map_cons]
    simp only [List.lookup_cons] at h
    cases hx : x == n with
    | true =>
      rw [hx] at h
      have e : x = n := eq_of_beq hx
      subst e
      cases h
      simp [hf, hk, List.lookup_cons]
    | false =>
      rw [hx] at h
      by_cases hc : (k == NameKind.free && env.scope.kind == .function && env.kindOf n == some .cell) = true
      · rw [if_pos hc]; simp only [List.lookup_cons, hx]; exact ih h hk
      · rw [if_neg hc]; simp only [List.lookup_cons, hx]; exact ih h hk
theorem mem_relabel {env : Env} {names : List (Str × NameKind)} {y : Str × NameKind} (h : y ∈ names.map fun (n, k) => if (k == NameKind.free && env.scope.kind == .function && env.kindOf n == some .cell) then (n, NameKind.cell) else (n, k))
    (hk : y.2 = .cell ∨ y.2 = .free) (hc : ∀ z ∈ names, z.2 ≠ .cell) : (y.1, NameKind.free) ∈ names := by
  obtain ⟨⟨n, k⟩, hm, e⟩ := List.mem_map.mp h
  by_cases q : (k == NameKind.free && env.scope.kind == .function && env.kindOf n == some .cell) = true
  · simp only [q, if_true] at e
    subst e
    have : k = .free := by
      simp only [Bool.and_eq_true, beq_iff_eq] at q
      exact q.1.1
    subst this
    exact hm
  · simp only [q] at e
    subst e
    rcases hk with z | z
    · exact absurd z (hc _ hm)
    · have z' : k = .free := z
      subst z'
      exact hm
section
variable {X : Cx} {scope : Scope} {x : Str} {fns : List Str} {js : List Nat} {pins : List (Addr × Obj)} {σ : St} {H : Hp} {s : Shared} {fp : List Addr}
/-- the block's names at its entry -/
def stComp (σ : St) (js : List Nat) (v : Option V) : St := v :: js.map fun j => (σ[j]?).join
theorem compCx_ok (S : CompSc X scope x fns js) (I : Inv X pins σ H s) (hf : ∀ b ∈ fp, FpOk X pins H b) (ho : ∀ b ∈ fp, b < s.heap.objs.size) : (cxComp X scope fns (x :: fns) fp pins s H).Ok where
  mod := I.ok.mod
  kind := S.kind
  glob := I.ok.glob
  blt := I.ok.blt
  above := Nat.le_refl _
  inj := fun y z c h1 h2 => I.ok.inj y z c (clOf_some h1).1 (clOf_some h2).1
  has := fun y hy => by
    have hy' : y ∈ fns := by
      rcases hy with hy | hy
      · exact S.free _ (mem_relabel (PySem.mem_of_lookup hy) (.inl rfl) S.nocell) rfl
      · exact S.free _ (mem_relabel (PySem.mem_of_lookup hy) (.inr rfl) S.nocell) rfl
    obtain ⟨c, hc⟩ := I.ok.has y (.inl (S.mine y hy'))
    exact ⟨c, clOf_has hy' hc⟩
  cab := fun _ _ h => nomatch h
  hd := I.ok.hd
  frames := I.ok.frames
  stk := .inl rfl
  exf := fun b hb => ⟨Nat.ne_of_lt (ho b hb), fun y c e => (hf b hb).2.2.2.2.1 y c (clOf_some e).1⟩
  bs := I.bs
  bsz := Nat.le_trans I.ok.bsz I.sz
  noex := fun b o e hb => by
    rcases (hf b hb).2.2.2.1 with z | z
    · exact I.ok.noex b o e z
    · exact absurd (Nat.lt_of_lt_of_le (Nat.lt_of_lt_of_le (Heap.lt_size e) I.ok.bsz) z) (Nat.lt_irrefl _)
  exfs := fun b hb hs => by
    rcases List.mem_cons.mp (I.stkSub b hs) with z | z
    · exact (hf b hb).2.1 z
    · exact (hf b hb).2.2.1 z
  funs := I.stack
  frf := I.stkFree
theorem compCx_inv (S : CompSc X scope x fns js) (I : Inv X pins σ H s) (hf : ∀ b ∈ fp, FpOk X pins H b) (ho : ∀ b ∈ fp, b < s.heap.objs.size) {h₁ : Heap} {m : Str → Option Value} {tk : Nat} (hn : h₁.Ns s.heap.objs.size m)
    (hk : ∀ b o, s.heap.get? b = some o → h₁.get? b = some o) : Inv (cxComp X scope fns (x :: fns) fp pins s H) [] (stComp σ js none) H { s with heap := h₁, toks := tk } := by
  have K1 : HOk X.prog X.w H h₁ := I.hok.kept hk
  refine ⟨compCx_ok S I hf ho, rfl, I.bare, Un.kept hk, ⟨m, hn, fun i y v e1 e2 _ => ?_⟩, fun y c e => ?_, I.hok.fresh (Nat.le_refl _), fun y c e => I.freeC y c (clOf_some e).1, fun p hp => ?_, K1, ?_⟩
  · cases i with
    | zero => cases e2
    | succ i =>
      have e1' : fns[i]? = some y := e1
      have e2' : (js.map fun j => (σ[j]?).join)[i]? = some (some v) := e2
      rw [List.getElem?_map] at e2'
      cases ej : js[i]? with
      | none => rw [ej] at e2'; cases e2'
      | some j =>
        rw [ej] at e2'
        have e3 : (σ[j]?).join = some v := Option.some.inj e2'
        have e4 : σ[j]? = some (some v) := by
          cases q : σ[j]? with
          | none => rw [q] at e3; cases e3
          | some o => rw [q] at e3; exact congrArg some e3
        have e5 : X.N[j]? = some y := by
          have q := congrArg (fun l => l[i]?) S.js
          simp only [List.getElem?_map, ej, e1', Option.map_some] at q
          exact Option.some.inj q
        have hy : y ∈ fns := List.mem_of_getElem? e1'
        obtain ⟨m', _, hl⟩ := I.loc
        obtain ⟨u, r, l⟩ := hl j y v e5 e4 (.inr (.inl (S.mine y hy)))
        refine ⟨u, r, .inr ⟨.inl (lookup_relabel_free I.ok.kind (S.isfree y hy) (S.mine y hy)), ?_⟩⟩
        rcases l with ⟨k, _⟩ | ⟨k, c, ec, oc, hoc, hd⟩
        · rw [S.mine y hy] at k; cases k
        · exact ⟨c, clOf_has hy ec, oc, hk _ _ hoc, hd⟩
  · obtain ⟨v, o, ho, hd⟩ := I.cell y c (clOf_some e).1
    exact ⟨v, o, hk _ _ ho, hd⟩
  · have hp' : p ∈ X.pn ++ pins := by rw [List.append_nil] at hp; exact hp
    obtain ⟨e, n, ne, nf, d⟩ := I.pin p hp'
    refine ⟨hk _ _ e, n, Nat.ne_of_lt (Heap.lt_size e), fun z => ?_, d⟩
    rcases List.mem_cons.mp (I.stkSub p.1 z) with q | q
    · exact ne q
    · exact nf q
  · unfold stComp
    have := congrArg List.length S.js
    simp only [List.length_map] at this
    simp only [List.length_cons, List.length_map, this, cxComp]
/-- out of the block again -/
theorem compCx_back (I : Inv X pins σ H s) (hf : ∀ b ∈ fp, FpOk X pins H b) {σ' : St} {H' : Hp} {s' : Shared} {pins' : List (Addr × Obj)} (J : Inv (cxComp X scope fns (x :: fns) fp pins s H) pins' σ' H' s') : Inv X pins σ H' s' :=
  I.call' (ch := fp) J.os J.base J.hok J.bare fun b hb => ⟨(hf b hb).2.2.2.1, (hf b hb).2.1, (hf b hb).2.2.2.2.1, (hf b hb).2.2.2.2.2⟩
end

/-! ### its tests -/
def PIfs (X : Cx) (ifs : List Expr) (t : TT) : Prop :=
  ∀ (pins : List (Addr × Obj)) (s : Shared) (σ : St) (H : Hp) (Q : Bool → Hp → Prop), Inv X pins σ H s → t σ H Q →
    wpAny (model X.prog X.w) X.A (forIn ifs true fun c r => if r = true then do let ok ← isTrue c X.env (eval c X.env); pure (ForInStep.yield ok) else pure (ForInStep.yield r)) (TP X pins σ Q) X.xe s
def tYes : TT := fun _ H Q => Q true H
theorem pifs_nil {X : Cx} : PIfs X [] tYes := fun _ _ _ H _ I h => wpAny_tests_nil ⟨H, I, h⟩
theorem pifs_one {X : Cx} {c : Expr} {t : TT} (h : PT X c t) : PIfs X [c] t := fun pins s σ H Q I q => wpAny_tests_one (h pins s σ H Q I q)
/-- what a comprehension asks: J is walked, D is the new list -/
def CompW (J : It) (D : Addr) (σ : St) (js : List Nat) (tt : TT) (te : TE) (QQ : Hp → Prop) (W : Nat → Nat → Hp → Prop) : Prop :=
  ∀ i m H, W i m H → (J.stop i H ∧ QQ H) ∨ (J.go i H ∧ ∃ (N1 : V → Hp → Prop) (N0 : Hp → Prop),
    (∀ y H3, N1 y H3 → ∃ ys, H3 D = some (.lst ys) ∧ ys.length < sizeLine ∧ ∃ m', m' < m ∧ W (i + 1) m' (upd H3 D (.lst (ys ++ [y])))) ∧ (∀ H2, N0 H2 → ∃ m', m' < m ∧ W (i + 1) m' H2) ∧
    ∀ v H', J.yld i H v H' → tt (stComp σ js (some v)) H' fun b H2 => if b = true then te (stComp σ js (some v)) H2 N1 else N0 H2)
section
variable {X : Cx} {scope : Scope} {x : Str} {fns : List Str} {js : List Nat} {pins : List (Addr × Obj)} {σ : St} {H : Hp} {s : Shared} {elt iter : Expr} {px pos pos' : Pos} {ifs : List Expr} {wi : TI} {tt : TT} {te : TE}
theorem comp_core {use : Option (Value → Sem Unit)} {Qv : Value → Shared → Prop} {QQ : Addr → Hp → Prop} (hc : X.calm = true) (S : CompSc X scope x fns js) (hi : PI X (.Name x px) iter wi)
    (ht : ∀ fp pins s H, PIfs (cxComp X scope fns (x :: fns) fp pins s H) ifs tt) (he : ∀ fp pins s H, PE (cxComp X scope fns (x :: fns) fp pins s H) elt te) (I : Inv X pins σ H s)
    (h : wi σ H fun J H1 => ∀ D, H1 D = none → ∃ W : Nat → Nat → Hp → Prop, (∃ m, W 0 m (upd H1 D (.lst []))) ∧ CompW J D σ js tt te (QQ D) W)
    (fin : ∀ D C H5 s5 m5, Inv X pins σ H5 s5 → FpOk X pins H5 C → s5.heap.Ns C m5 → QQ D H5 → compPost (model X.prog X.w) X.A X.xe use Qv (.ref D) C (.ok .next) s5)
    (hs : ∀ x, foldedSetIterable iter X.env x = pure x := by intro _; rfl) :
    wpAny (model X.prog X.w) X.A (comprehension (.ListComp elt [⟨.Name x px, iter, ifs, 0⟩] scope pos) scope X.env pos' (newList []) false (eval iter X.env) use) Qv X.xe s := by
  refine wpAny_comprehension_free (use := use) rfl hs S.clos S.kind S.locs (thn (hi pins s σ H _ I h) fun v s1 h1 => thn h1 fun itv s2 h2 => ?_)
  obtain ⟨it, fp, tn, J, H2, e, I2, T, st2, f2, hW⟩ := h2
  subst e
  obtain ⟨W, ⟨m0, w0⟩, turn⟩ := hW s2.heap.objs.size I2.fresh
  have I3 : Inv X pins σ (upd H2 s2.heap.objs.size (.lst [])) { s2 with heap := s2.heap.push { cls := .type "list", data := .seq ([] : List Value).toArray } } := I2.lnew (t' := s2.toks) (its := []) (ys := []) .nil (Nat.zero_le _)
  have lt2 : ∀ b ∈ fp, b < s2.heap.objs.size := fun b hb => by
    obtain ⟨o, e, _⟩ := T.obj _ _ st2 b hb
    exact Heap.lt_size e
  have f3 : ∀ b ∈ fp, FpOk X pins (upd H2 s2.heap.objs.size (.lst [])) b := fun b hb => ⟨by rw [upd_ne (Nat.ne_of_lt (lt2 b hb))]; exact (f2 b hb).1, (f2 b hb).2⟩
  have lt3 : ∀ b ∈ fp, b < (s2.heap.push { cls := .type "list", data := .seq ([] : List Value).toArray }).objs.size := fun b hb => by rw [Heap.size_push]; exact Nat.lt_succ_of_lt (lt2 b hb)
  refine wpAny_newObj_type (wpAny_newFunctionEnv S.nocell (by intro y hy; simp at hy) (fun h₁ hns₁ hsb₁ => ?_) S.kind)
  dsimp only at hns₁ hsb₁ ⊢
  have hk : ∀ b o, (s2.heap.push { cls := .type "list", data := .seq ([] : List Value).toArray }).get? b = some o → h₁.get? b = some o := fun b o e =>
    hsb₁.extBut b o (Nat.ne_of_lt (Heap.lt_size e)) (Heap.get?_push_of_some _ e)
  have J0 := compCx_inv (tk := s2.toks + ([] : List (Str × Value)).length) S I3 f3 lt3 hns₁ hk
  have stat : ∀ {H' : Hp}, (∀ b ∈ fp, H' b = none) → ∀ b ∈ fp, FpOk (cxComp X scope fns (x :: fns) fp pins { s2 with heap := s2.heap.push { cls := .type "list", data := .seq ([] : List Value).toArray } } (upd H2 s2.heap.objs.size (.lst []))) [] H' b := fun hn b hb => by
    refine ⟨hn b hb, (J0.ok.exf b hb).1, J0.ok.exfs b hb, .inl hb, (J0.ok.exf b hb).2, fun p hp => (f3 b hb).2.2.2.2.2 p ?_⟩
    rw [List.append_nil] at hp
    exact hp
  have fr0 : ∀ b ∈ fp, (upd H2 s2.heap.objs.size (.lst [])) b = none := fun b hb => (f3 b hb).1
  have st0 : tn 0 h₁ := T.keep _ _ _ st2 fun b hb o e => hk b o (Heap.get?_push_of_some _ e)
  have loop : ∀ s₃ : Shared, s₃ = { s2 with heap := h₁, toks := s2.toks + ([] : List (Str × Value)).length } →
      codeAny (model X.prog X.w) X.A (.compLoop (.ListComp elt [⟨.Name x px, iter, ifs, 0⟩] scope pos) 0 (.ref it) (.ref s2.heap.objs.size) (compEnvC scope (clOf X.env fns) (s2.heap.push { cls := .type "list", data := .seq ([] : List Value).toArray }).objs.size X.env))
        (compPost (model X.prog X.w) X.A X.xe use Qv (.ref s2.heap.objs.size) (s2.heap.push { cls := .type "list", data := .seq ([] : List Value).toArray }).objs.size) s₃ := by
    rintro s₃ rfl
    refine compLoop_own (fun n s' => ∃ i o H', Inv (cxComp X scope fns (x :: fns) fp pins { s2 with heap := s2.heap.push { cls := .type "list", data := .seq ([] : List Value).toArray } } (upd H2 s2.heap.objs.size (.lst []))) [] (stComp σ js o) H' s' ∧ tn i s'.heap ∧ (∀ b ∈ fp, H' b = none) ∧ W i n H') ?_ m0
      ⟨0, none, _, J0, st0, fr0, w0⟩
    rintro n s4 ⟨i, o, H4, J4, st4, fr4, w4⟩
    rcases turn i n H4 w4 with ⟨stop, qn⟩ | ⟨go, N1, N0, hN1, hN0, step⟩
    · refine thn (T.done (cxComp X scope fns (x :: fns) fp pins { s2 with heap := s2.heap.push { cls := .type "list", data := .seq ([] : List Value).toArray } } (upd H2 s2.heap.objs.size (.lst []))) rfl rfl rfl hc i [] s4 _ H4 _ J4 (stat fr4) st4 stop) fun r s5 ⟨hr, J5⟩ => ?_
      subst hr
      obtain ⟨m5, hn5, _⟩ := id J5.loc
      have I5 := compCx_back I3 f3 J5
      exact fin _ _ H4 s5 m5 I5 ⟨J5.free, Nat.ne_of_gt (Nat.lt_of_lt_of_le I3.lt (Nat.le_refl _)), I3.nofs (Nat.le_refl _), .inr I3.sz, (I3.fpOk (Nat.le_refl _) J5.free).2.2.2.2⟩ hn5 qn
    · refine thn (T.item (cxComp X scope fns (x :: fns) fp pins { s2 with heap := s2.heap.push { cls := .type "list", data := .seq ([] : List Value).toArray } } (upd H2 s2.heap.objs.size (.lst []))) rfl rfl rfl hc i [] s4 _ H4 _ J4 (stat fr4) st4 go) fun r s5 ⟨u, hr, h5⟩ => ?_
      subst hr
      refine thn h5 fun _ s6 ⟨v6, H6, J6, r6, y6, st6, fr6⟩ => ?_
      have J6' := J6.pinned (stat fr6) (T.obj _ _ st6)
      have pg := pg_name (X := cxComp X scope fns (x :: fns) fp pins { s2 with heap := s2.heap.push { cls := .type "list", data := .seq ([] : List Value).toArray } } (upd H2 s2.heap.objs.size (.lst []))) (pos := px) (i := 0) (x := x) S.nd rfl (.inl (lookup_relabel_local S.loc)) (.inr (lookup_relabel_local S.loc))
      refine thn (pg _ s6 _ H6 v6 u (fun σ' H' => σ' = stComp σ js (some v6) ∧ H' = H6) J6' r6 ⟨rfl, rfl⟩) fun _ s7 ⟨σ7, H7, J7, e7, e7'⟩ => ?_
      subst e7 e7'
      refine thn (ht _ _ _ _ _ s7 _ H7 _ J7 (step v6 H7 y6)) fun b s8 ⟨H8, J8, q8⟩ => ?_
      have again : ∀ {H9 : Hp} {s9 : Shared}, Inv (cxComp X scope fns (x :: fns) fp pins { s2 with heap := s2.heap.push { cls := .type "list", data := .seq ([] : List Value).toArray } } (upd H2 s2.heap.objs.size (.lst []))) ([] ++ pinsAt fp s6.heap) (stComp σ js (some v6)) H9 s9 →
          (∃ m', m' < n ∧ W (i + 1) m' H9) → ∃ m, m < n ∧ ∃ i o H', Inv (cxComp X scope fns (x :: fns) fp pins { s2 with heap := s2.heap.push { cls := .type "list", data := .seq ([] : List Value).toArray } } (upd H2 s2.heap.objs.size (.lst []))) [] (stComp σ js o) H' s9 ∧ tn i s9.heap ∧ (∀ b ∈ fp, H' b = none) ∧ W i m H' := fun {H9 s9} J9 ⟨m', hm, w9⟩ => by
        refine ⟨m', hm, i + 1, some v6, H9, J9.unpinned, T.keep _ _ _ st6 fun b hb o e => (J9.pin (b, o) (List.mem_append_right _ (List.mem_append_right _ (mem_pinsAt hb e)))).1, fun b hb => ?_, w9⟩
        obtain ⟨o, e, d⟩ := T.obj _ _ st6 b hb
        exact (J9.pin (b, o) (List.mem_append_right _ (List.mem_append_right _ (mem_pinsAt hb e)))).2.1
      cases b with
      | false => exact again J8 (hN0 _ (by simpa using q8))
      | true =>
        simp only [if_true] at q8 ⊢
        refine thn (he _ _ _ _ _ s8 _ H8 _ J8 q8) fun xv s9 ⟨y9, H9, J9, r9, n9⟩ => ?_
        obtain ⟨ys, hD, hz, q9⟩ := hN1 y9 H9 n9
        refine thn (mt_append _ s9 _ H9 (.ref s2.heap.objs.size) [y9] (.ref s2.heap.objs.size) [xv] (fun _ H' => H' = upd H9 s2.heap.objs.size (.lst (ys ++ [y9]))) J9 rfl (.cons r9 .nil) ⟨_, ys, y9, rfl, rfl, hD, hz, rfl⟩) fun _ s10 ⟨_, H10, J10, _, e10⟩ => ?_
        subst e10
        exact again J10 q9
  exact codeAny_compStart_list (loop _ rfl) (T.self _ 0 _ _ _ st0 (loop _ rfl))
/-- [elt for x in iter if c] as a value -/
def tComp (wi : TI) (js : List Nat) (tt : TT) (te : TE) : TE := fun σ H Q => wi σ H fun J H1 => ∀ D, H1 D = none → ∃ W : Nat → Nat → Hp → Prop, (∃ m, W 0 m (upd H1 D (.lst []))) ∧ CompW J D σ js tt te (Q (.ref D)) W
theorem pe_comp (hc : X.calm = true) (S : CompSc X scope x fns js) (hi : PI X (.Name x px) iter wi)
    (ht : ∀ fp pins s H, PIfs (cxComp X scope fns (x :: fns) fp pins s H) ifs tt) (he : ∀ fp pins s H, PE (cxComp X scope fns (x :: fns) fp pins s H) elt te) (hs : ∀ x, foldedSetIterable iter X.env x = pure x := by intro _; rfl) :
    PE X (.ListComp elt [⟨.Name x px, iter, ifs, 0⟩] scope pos) (tComp wi js tt te) := by
  intro pins s σ H Q I h
  rw [eval_ListComp]
  refine comp_core (use := none) (QQ := fun D => Q (.ref D)) hc S hi ht he I h (fun D C H5 s5 m5 I5 fC hn q => ?_) hs
  refine ⟨m5, hn, fun h' sb => ⟨.ref D, H5, ?_, rfl, q⟩⟩
  exact I5.turned (t' := s5.toks) (fun b o hb e => (sb.2 b hb).trans e) fC.1 fC.2.1 fC.2.2.2.1 fC.2.2.2.2.1 fC.2.2.2.2.2
/-- y = [elt for x in iter if c]: the name is stored within -/
def tSetComp (k : Nat) (wi : TI) (js : List Nat) (tt : TT) (te : TE) : TS := fun D σ H => wi σ H fun J H1 => ∀ L, H1 L = none → ∃ W : Nat → Nat → Hp → Prop, (∃ m, W 0 m (upd H1 L (.lst []))) ∧ CompW J L σ js tt te (fun H' => D.nx (σ.set k (some (.ref L))) H') W
theorem ps_setComp {k : Nat} {y : Str} {py spos : Pos} (hc : X.calm = true) (S : CompSc X scope x fns js) (hi : PI X (.Name x px) iter wi)
    (ht : ∀ fp pins s H, PIfs (cxComp X scope fns (x :: fns) fp pins s H) ifs tt) (he : ∀ fp pins s H, PE (cxComp X scope fns (x :: fns) fp pins s H) elt te)
    (hN : X.N.Nodup) (hk : X.N[k]? = some y) (hy : Loc X.env.scope y) (hfn : X.fn y = true ∨ X.env.scope.names.lookup y = some .local := by first | exact .inl rfl | exact .inr rfl | assumption)
    (hsw : swapsWith (.ListComp elt [⟨.Name x px, iter, ifs, 0⟩] scope pos) (some (.Name y py)) spos.line X.env = pure true := by rfl) (hs : ∀ x, foldedSetIterable iter X.env x = pure x := by intro _; rfl) :
    PS X (.Assign [.Name y py] (.ListComp elt [⟨.Name x px, iter, ifs, 0⟩] scope pos) spos) (tSetComp k wi js tt te) := by
  intro pins s σ H D I h
  rw [exec_Assign_Name_used _ _ _ _ hsw]
  refine wpAny_bind (wpAny_standAt (wpAny_bind ?_))
  show wpAny _ X.A (do let _ ← comprehension (.ListComp elt [⟨.Name x px, iter, ifs, 0⟩] scope pos) scope X.env _ (newList []) false (eval iter X.env) (some (assign (.Name y py) X.env))) _ _ s
  refine wpAny_bind (thn (comp_core (use := some (assign (.Name y py) X.env)) (QQ := fun L H' => D.nx (σ.set k (some (.ref L))) H') (Qv := fun _ s' => SP X pins D .next s') hc S hi ht he I h (fun L C H5 s5 m5 I5 fC hn q => ?_) hs) fun _ s' hq => wpAny_pure (wpAny_pure hq))
  obtain ⟨oC, es, ep, e, d, r⟩ := id hn
  have I5' : Inv X (pins ++ [(C, oC)]) σ H5 s5 := I5.pins_of fun p hp => (List.mem_append.mp hp).elim (fun z => I5.pin p (List.mem_append_right _ z)) fun z => by
    obtain rfl : p = (C, oC) := by simpa using z
    exact ⟨e, fC.1, fC.2.1, fC.2.2.1, fun v z => by rw [d] at z; cases z⟩
  refine thn (pg_name (pos := py) hN hk hy hfn _ s5 σ H5 (.ref L) (.ref L) (fun σ' H' => σ' = σ.set k (some (.ref L)) ∧ H' = H5) I5' rfl ⟨rfl, rfl⟩) fun _ s6 ⟨σ6, H6, I6, e6, e6'⟩ => ?_
  subst e6 e6'
  have pC := I6.pin (C, oC) (by simp)
  refine ⟨m5, ⟨oC, es, ep, pC.1, d, r⟩, fun h' sb => ⟨_, H6, ?_, q⟩⟩
  exact (I6.unpinned).turned (t' := s6.toks) (fun b o hb e => (sb.2 b hb).trans e) fC.1 fC.2.1 fC.2.2.2.1 fC.2.2.2.2.1 fC.2.2.2.2.2
end
/-- over a list that the block leaves as it is: Pv by the turn, the new list's items, the heap -/
theorem comp_list {K : PySem.W.Frag} {a D : Addr} {xs : List V} {σ : St} {js : List Nat} {tt : TT} {te : TE} {QQ : Hp → Prop} {H : Hp} (Pv : Nat → List V → Hp → Prop) (h0 : Pv 0 [] (upd H D (.lst [])))
    (hl : ∀ i ys H, i ≤ xs.length → H D = some (.lst ys) → Pv i ys H → SqL K H a xs)
    (hs : ∀ i v ys H, xs[i]? = some v → H D = some (.lst ys) → Pv i ys H → tt (stComp σ js (some v)) H fun b H2 =>
      if b = true then te (stComp σ js (some v)) H2 fun y H3 => H3 D = some (.lst ys) ∧ ys.length < sizeLine ∧ Pv (i + 1) (ys ++ [y]) (upd H3 D (.lst (ys ++ [y]))) else H2 D = some (.lst ys) ∧ Pv (i + 1) ys H2)
    (hd : ∀ ys H, H D = some (.lst ys) → Pv xs.length ys H → QQ H) :
    ∃ W : Nat → Nat → Hp → Prop, (∃ m, W 0 m (upd H D (.lst []))) ∧ CompW (Itl K a) D σ js tt te QQ W := by
  refine ⟨fun i m H => i ≤ xs.length ∧ m = xs.length - i ∧ ∃ ys, H D = some (.lst ys) ∧ Pv i ys H, ⟨_, Nat.zero_le _, rfl, [], upd_same, h0⟩, ?_⟩
  rintro i m H1 ⟨hi, rfl, ys, hD, hp⟩
  have hq := hl i ys H1 hi hD hp
  by_cases e : i = xs.length
  · subst e
    exact .inl ⟨⟨xs, hq, Nat.le_refl _⟩, hd ys H1 hD hp⟩
  · have hlt : i < xs.length := by omega
    refine .inr ⟨⟨xs, xs[i], hq, List.getElem?_eq_getElem hlt⟩, fun y H3 => H3 D = some (.lst ys) ∧ ys.length < sizeLine ∧ Pv (i + 1) (ys ++ [y]) (upd H3 D (.lst (ys ++ [y]))), fun H2 => H2 D = some (.lst ys) ∧ Pv (i + 1) ys H2,
      fun y H3 q3 => ⟨ys, q3.1, q3.2.1, xs.length - (i + 1), by omega, hlt, rfl, ys ++ [y], upd_same, q3.2.2⟩, fun H2 q => ⟨xs.length - (i + 1), by omega, hlt, rfl, ys, q.1, q.2⟩, fun v H' hy => ?_⟩
    obtain ⟨rfl, hv⟩ := hy
    exact hs i v ys H' (hv xs hq) hD hp
/-- over range(n) -/
theorem comp_range {lo : Int} {n : Nat} {D : Addr} {σ : St} {js : List Nat} {tt : TT} {te : TE} {QQ : Hp → Prop} {H : Hp} (Pv : Nat → List V → Hp → Prop) (h0 : Pv 0 [] (upd H D (.lst [])))
    (hs : ∀ i ys H, i < n → H D = some (.lst ys) → Pv i ys H → tt (stComp σ js (some (.int (lo + i)))) H fun b H2 =>
      if b = true then te (stComp σ js (some (.int (lo + i)))) H2 fun y H3 => H3 D = some (.lst ys) ∧ ys.length < sizeLine ∧ Pv (i + 1) (ys ++ [y]) (upd H3 D (.lst (ys ++ [y]))) else H2 D = some (.lst ys) ∧ Pv (i + 1) ys H2)
    (hd : ∀ ys H, H D = some (.lst ys) → Pv n ys H → QQ H) :
    ∃ W : Nat → Nat → Hp → Prop, (∃ m, W 0 m (upd H D (.lst []))) ∧ CompW (Itr lo n) D σ js tt te QQ W := by
  refine ⟨fun i m H => i ≤ n ∧ m = n - i ∧ ∃ ys, H D = some (.lst ys) ∧ Pv i ys H, ⟨_, Nat.zero_le _, rfl, [], upd_same, h0⟩, ?_⟩
  rintro i m H1 ⟨hi, rfl, ys, hD, hp⟩
  by_cases e : i = n
  · subst e
    exact .inl ⟨Nat.le_refl _, hd ys H1 hD hp⟩
  · have hlt : i < n := by omega
    refine .inr ⟨hlt, fun y H3 => H3 D = some (.lst ys) ∧ ys.length < sizeLine ∧ Pv (i + 1) (ys ++ [y]) (upd H3 D (.lst (ys ++ [y]))), fun H2 => H2 D = some (.lst ys) ∧ Pv (i + 1) ys H2,
      fun y H3 q3 => ⟨ys, q3.1, q3.2.1, n - (i + 1), by omega, hlt, rfl, ys ++ [y], upd_same, q3.2.2⟩, fun H2 q => ⟨n - (i + 1), by omega, hlt, rfl, ys, q.1, q.2⟩, fun v H' hy => ?_⟩
    obtain ⟨rfl, rfl⟩ := hy
    exact hs i ys H' hlt hD hp
end L2

set_option linter.all false
namespace TO
/-! ### the sizes of blocks that stand side by side -/
def Adj : Nat → List Nat → Prop
  | _, [] => True
  | p, n :: r => 1 ≤ n ∧ n ≤ 8 ∧ 5 ≤ p + n ∧ Adj n r
def lastN : Nat → List Nat → Nat
  | p, [] => p
  | _, n :: r => lastN n r
theorem Adj.app : ∀ {l₁ l₂ : List Nat} {p : Nat}, Adj p (l₁ ++ l₂) ↔ Adj p l₁ ∧ Adj (lastN p l₁) l₂
  | [], l₂, p => by simp [Adj, lastN]
  | n :: r, l₂, p => by
    have ih := @Adj.app r l₂ n
    simp only [List.cons_append, Adj, lastN, ih]
    constructor
    · rintro ⟨a, b, c, d, e⟩; exact ⟨⟨a, b, c, d⟩, e⟩
    · rintro ⟨⟨a, b, c, d⟩, e⟩; exact ⟨a, b, c, d, e⟩
theorem lastN_snoc : ∀ {l : List Nat} {p n : Nat}, lastN p (l ++ [n]) = n
  | [], _, _ => rfl
  | m :: r, _, n => by simp only [List.cons_append, lastN]; exact lastN_snoc
theorem Adj.mono : ∀ {l : List Nat} {p q : Nat}, p ≤ q → Adj p l → Adj q l
  | [], _, _, _, _ => trivial
  | n :: r, p, q, h, ⟨a, b, c, d⟩ => ⟨a, b, by omega, d⟩
theorem Adj.five : ∀ {l : List Nat} {p q : Nat}, 4 ≤ q → Adj p l → Adj q l
  | [], _, _, _, _ => trivial
  | n :: r, p, q, h, ⟨a, b, c, d⟩ => ⟨a, b, by omega, d⟩
theorem Adj.last : ∀ {l : List Nat} {p : Nat}, 1 ≤ p → Adj p l → 1 ≤ lastN p l
  | [], _, h, _ => h
  | n :: r, p, h, ⟨a, b, c, d⟩ => @Adj.last r n a d
/-- a block at a place is a greater one -/
theorem Adj.put {l₁ l₂ : List Nat} {a b p : Nat} (h : Adj p (l₁ ++ a :: l₂)) (hab : a ≤ b) (hb : b ≤ 8) : Adj p (l₁ ++ b :: l₂) := by
  rw [Adj.app] at h ⊢
  obtain ⟨h1, h2, h3, h4, h5⟩ := h
  exact ⟨h1, by omega, hb, by omega, h5.mono hab⟩
/-- nine become four and five -/
theorem Adj.split {l₁ l₂ : List Nat} {a p : Nat} (hp : 1 ≤ p) (h : Adj p (l₁ ++ a :: l₂)) : Adj p (l₁ ++ 4 :: 5 :: l₂) := by
  rw [Adj.app] at h ⊢
  obtain ⟨h1, h2, h3, h4, h5⟩ := h
  have := h1.last hp
  exact ⟨h1, by omega, by omega, by omega, by omega, by omega, by omega, h5.five (by omega)⟩
/-- a block of one row goes -/
theorem Adj.gone {l₁ l₂ : List Nat} {p : Nat} (h : Adj p (l₁ ++ 1 :: l₂)) : Adj p (l₁ ++ l₂) := by
  rw [Adj.app] at h ⊢
  obtain ⟨h1, h2, h3, h4, h5⟩ := h
  exact ⟨h1, h5.five (by omega)⟩
/-- one row of a block goes; then the two joins -/
theorem Adj.less_join {l₁ l₂ : List Nat} {a c p : Nat} (h : Adj p (l₁ ++ (a + 1) :: c :: l₂)) (ha : 1 ≤ a) (hac : a + c < 5) : Adj p (l₁ ++ (a + c) :: l₂) := by
  rw [Adj.app] at h ⊢
  obtain ⟨h1, h2, h3, h4, h5, h6, h7, h8⟩ := h
  exact ⟨h1, by omega, by omega, by omega, h8.mono (by omega)⟩
theorem Adj.less_join_l {l₁ l₂ : List Nat} {a e p : Nat} (h : Adj p (l₁ ++ e :: (a + 1) :: l₂)) (hea : e + a < 5) : Adj p (l₁ ++ (e + a) :: l₂) := by
  rw [Adj.app] at h ⊢
  obtain ⟨h1, h2, h3, h4, h5, h6, h7, h8⟩ := h
  exact ⟨h1, by omega, by omega, by omega, h8.five (by omega)⟩
theorem Adj.less {l₁ l₂ : List Nat} {a p : Nat} (h : Adj p (l₁ ++ (a + 1) :: l₂)) (ha : 1 ≤ a) (hl : 5 ≤ lastN p l₁ + a) (hr : ∀ c r, l₂ = c :: r → 5 ≤ a + c) : Adj p (l₁ ++ a :: l₂) := by
  rw [Adj.app] at h ⊢
  obtain ⟨h1, h2, h3, h4, h5⟩ := h
  refine ⟨h1, ha, by omega, hl, ?_⟩
  cases l₂ with
  | nil => trivial
  | cons c r =>
    obtain ⟨h6, h7, h8, h9⟩ := h5
    exact ⟨h6, h7, hr c r rfl, h9⟩

/-! ### lists in order -/
section
variable {ρ : Type} (lt : ρ → ρ → Bool)
abbrev Srt (l : List ρ) : Prop := l.Pairwise fun a b => lt a b = true
variable {lt}
/-- a test that holds of what stands ahead, if it holds -/
def Down (lt : ρ → ρ → Bool) (P : ρ → Bool) : Prop := ∀ x y, lt x y = true → P y = true → P x = true
theorem Srt.app {l₁ l₂ : List ρ} : Srt lt (l₁ ++ l₂) ↔ Srt lt l₁ ∧ Srt lt l₂ ∧ ∀ a ∈ l₁, ∀ b ∈ l₂, lt a b = true := List.pairwise_append
/-- takeWhile is filter in an order -/
theorem take_eq_filter {P : ρ → Bool} (D : Down lt P) : ∀ {l : List ρ}, Srt lt l → l.takeWhile P = l.filter P
  | [], _ => rfl
  | x :: r, h => by
    have h' := List.pairwise_cons.mp h
    cases e : P x with
    | true => rw [List.takeWhile_cons, List.filter_cons]; simp only [e, if_true]; rw [take_eq_filter D h'.2]
    | false =>
      rw [List.takeWhile_cons, List.filter_cons]; simp only [e]
      symm
      simp only [Bool.false_eq_true, if_false]
      rw [List.filter_eq_nil_iff]
      intro y hy hP
      have := D x y (h'.1 y hy) hP
      rw [e] at this; cases this
theorem drop_not {P : ρ → Bool} (D : Down lt P) {l : List ρ} (h : Srt lt l) : ∀ x ∈ l.dropWhile P, P x = false := by
  induction l with
  | nil => intro x hx; cases hx
  | cons a r ih =>
    intro x hx
    have h' := List.pairwise_cons.mp h
    cases e : P a with
    | true => rw [List.dropWhile_cons] at hx; simp only [e, if_true] at hx; exact ih h'.2 x hx
    | false =>
      rw [List.dropWhile_cons] at hx; simp only [e] at hx
      rcases List.mem_cons.mp hx with rfl | hx
      · exact e
      · cases q : P x with
        | false => rfl
        | true => have := D a x (h'.1 x hx) q; rw [e] at this; cases this
theorem take_all {P : ρ → Bool} {l : List ρ} : ∀ x ∈ l.takeWhile P, P x = true := by
  induction l with
  | nil => intro x hx; cases hx
  | cons a r ih =>
    intro x hx
    rw [List.takeWhile_cons] at hx
    cases e : P a with
    | true =>
      simp only [e, if_true] at hx
      rcases List.mem_cons.mp hx with rfl | hx
      · exact e
      · exact ih x hx
    | false => simp [e] at hx
/-- a row comes to its place -/
theorem Srt.ins {l : List ρ} {x : ρ} (tr : ∀ a b c, lt a b = true → lt b c = true → lt a c = true) (h : Srt lt l) (hx : ∀ y ∈ l, lt y x = true ∨ lt x y = true) :
    Srt lt (l.takeWhile (fun y => lt y x) ++ x :: l.dropWhile fun y => lt y x) := by
  have D : Down lt fun y => lt y x := fun a b hab hb => tr a b x hab hb
  have e := List.takeWhile_append_dropWhile (p := fun y => lt y x) (l := l)
  have hs := h
  rw [← e, Srt.app] at hs
  obtain ⟨s1, s2, s3⟩ := hs
  refine Srt.app.mpr ⟨s1, List.pairwise_cons.mpr ⟨fun y hy => ?_, s2⟩, fun a ha b hb => ?_⟩
  · have hn := drop_not D h y hy
    rcases hx y (by rw [← e]; exact List.mem_append_right _ hy) with z | z
    · rw [hn] at z; cases z
    · exact z
  · rcases List.mem_cons.mp hb with rfl | hb
    · exact take_all (P := fun y => lt y b) a ha
    · exact s3 a ha b hb
theorem ins_perm {P : ρ → Bool} {l : List ρ} {x : ρ} : (l.takeWhile P ++ x :: l.dropWhile P).Perm (x :: l) := by
  have e := List.takeWhile_append_dropWhile (p := P) (l := l)
  exact List.perm_middle.trans (by rw [e])
/-- two orders of the same rows are one -/
theorem Srt.one (ir : ∀ a, lt a a = false) (tr : ∀ a b c, lt a b = true → lt b c = true → lt a c = true) : ∀ {l₁ l₂ : List ρ}, Srt lt l₁ → Srt lt l₂ → l₁.Perm l₂ → l₁ = l₂
  | [], l₂, _, _, p => by rw [List.nil_perm.mp p]
  | a :: r, [], _, _, p => by cases List.perm_nil.mp p
  | a :: r, b :: t, h1, h2, p => by
    have h1' := List.pairwise_cons.mp h1
    have h2' := List.pairwise_cons.mp h2
    have hab : a = b := by
      rcases List.mem_cons.mp (p.mem_iff.mp (List.mem_cons_self ..)) with q | q
      · exact q
      · rcases List.mem_cons.mp (p.mem_iff.mpr (List.mem_cons_self ..)) with q' | q'
        · exact q'.symm
        · have z := tr _ _ _ (h1'.1 b q') (h2'.1 a q)
          rw [ir] at z; cases z
    subst hab
    rw [Srt.one ir tr h1'.2 h2'.2 (List.Perm.cons_inv p)]

/-! ### blocks -/
variable {P : ρ → Bool}
theorem ahead_all (D : Down lt P) : ∀ {B : List (List ρ)}, Srt lt B.flatten → (∀ b ∈ B, ∃ x, b.getLast? = some x ∧ P x = true) → ∀ x ∈ B.flatten, P x = true
  | [], _, _, x, hx => by cases hx
  | b :: B, h, hl, x, hx => by
    rw [List.flatten_cons] at h hx
    have h' := Srt.app.mp h
    rcases List.mem_append.mp hx with hx | hx
    · obtain ⟨z, hz, pz⟩ := hl b (List.mem_cons_self ..)
      obtain ⟨ys, rfl⟩ := List.getLast?_eq_some_iff.mp hz
      rcases List.mem_append.mp hx with hx | hx
      · exact D x z ((Srt.app.mp h'.1).2.2 x hx z (List.mem_singleton.mpr rfl)) pz
      · rw [List.mem_singleton.mp hx]; exact pz
    · exact ahead_all D h'.2.1 (fun c hc => hl c (List.mem_cons_of_mem _ hc)) x hx
theorem behind_none (D : Down lt P) {b t : List ρ} {z : ρ} (h : Srt lt (b ++ t)) (hz : b.getLast? = some z) (pz : P z = false) : ∀ y ∈ t, P y = false := fun y hy => by
  obtain ⟨ys, rfl⟩ := List.getLast?_eq_some_iff.mp hz
  cases e : P y with
  | false => rfl
  | true =>
    have := D z y ((Srt.app.mp h).2.2 z (List.mem_append_right _ (List.mem_singleton.mpr rfl)) y hy) e
    rw [pz] at this; cases this
theorem tw_all {l₁ l₂ : List ρ} (h : ∀ x ∈ l₁, P x = true) : (l₁ ++ l₂).takeWhile P = l₁ ++ l₂.takeWhile P := List.takeWhile_append_of_pos h
theorem dw_all {l₁ l₂ : List ρ} (h : ∀ x ∈ l₁, P x = true) : (l₁ ++ l₂).dropWhile P = l₂.dropWhile P := List.dropWhile_append_of_pos h
theorem tw_none : ∀ {b t : List ρ}, (∀ y ∈ t, P y = false) → (b ++ t).takeWhile P = b.takeWhile P ∧ (b ++ t).dropWhile P = b.dropWhile P ++ t
  | [], [], _ => ⟨rfl, rfl⟩
  | [], y :: t, h => by
    have e := h y (List.mem_cons_self ..)
    simp [e]
  | x :: b, t, h => by
    obtain ⟨h1, h2⟩ := tw_none (b := b) h
    cases e : P x with
    | true => simp only [List.cons_append, List.takeWhile_cons, List.dropWhile_cons, e, if_true, h1, h2, and_self]
    | false => simp [e]
/-- where a row comes in: the place's block b, those ahead of it B₁, those behind it B₂ -/
theorem ins_blocks {B₁ B₂ : List (List ρ)} {b : List ρ} {x : ρ} (h1 : ∀ y ∈ B₁.flatten, P y = true) (h2 : ∀ y ∈ B₂.flatten, P y = false) :
    (B₁ ++ (b.takeWhile P ++ x :: b.dropWhile P) :: B₂).flatten = (B₁ ++ b :: B₂).flatten.takeWhile P ++ x :: (B₁ ++ b :: B₂).flatten.dropWhile P := by
  rw [List.flatten_append, List.flatten_append, List.flatten_cons, List.flatten_cons, tw_all h1, dw_all h1, (tw_none h2).1, (tw_none h2).2]
  simp only [List.append_assoc, List.cons_append]
/-- the rows ahead, counted by blocks -/
theorem count_blocks (D : Down lt P) {B₁ B₂ : List (List ρ)} {b : List ρ} (hs : Srt lt (B₁ ++ b :: B₂).flatten) (h1 : ∀ y ∈ B₁.flatten, P y = true) (h2 : ∀ y ∈ B₂.flatten, P y = false) :
    ((B₁ ++ b :: B₂).flatten.filter P).length = (B₁.map List.length).sum + (b.takeWhile P).length := by
  rw [← take_eq_filter D hs, List.flatten_append, List.flatten_cons, tw_all h1, (tw_none h2).1, List.length_append, List.length_flatten]
theorem count_blocks_end {B : List (List ρ)} (h1 : ∀ y ∈ B.flatten, P y = true) : (B.flatten.filter P).length = (B.map List.length).sum := by
  rw [List.filter_eq_self.mpr h1, List.length_flatten]
/-- the block of a row that is there -/
theorem there_block (ir : ∀ a, lt a a = false) {B₁ B₂ : List (List ρ)} {b : List ρ} {x z : ρ} (hs : Srt lt (B₁ ++ b :: B₂).flatten) (hx : x ∈ (B₁ ++ b :: B₂).flatten) (h1 : ∀ y ∈ B₁.flatten, lt y x = true)
    (hz : b.getLast? = some z) (pz : lt z x = false) : x ∈ b := by
  rw [List.flatten_append, List.flatten_cons] at hs hx
  rcases List.mem_append.mp hx with hx1 | hx1
  · have := h1 x hx1; rw [ir] at this; cases this
  · rcases List.mem_append.mp hx1 with hx2 | hx2
    · exact hx2
    · obtain ⟨ys, rfl⟩ := List.getLast?_eq_some_iff.mp hz
      have := (Srt.app.mp (Srt.app.mp hs).2.1).2.2 z (List.mem_append_right _ (List.mem_singleton.mpr rfl)) x hx2
      rw [pz] at this; cases this
theorem no_end (ir : ∀ a, lt a a = false) {l : List ρ} {x : ρ} (hx : x ∈ l) (h1 : ∀ y ∈ l, lt y x = true) : False := by
  have := h1 x hx; rw [ir] at this; cases this
variable [DecidableEq ρ]
theorem erase_blocks {B₁ B₂ : List (List ρ)} {b : List ρ} {x : ρ} (hs : Srt lt (B₁ ++ b :: B₂).flatten) (hx : x ∈ b) :
    Srt lt (B₁ ++ b.erase x :: B₂).flatten ∧ (x :: (B₁ ++ b.erase x :: B₂).flatten).Perm (B₁ ++ b :: B₂).flatten := by
  rw [List.flatten_append, List.flatten_cons] at hs ⊢
  rw [List.flatten_append, List.flatten_cons]
  refine ⟨List.Pairwise.sublist (List.Sublist.append (List.Sublist.refl _) (List.Sublist.append List.erase_sublist (List.Sublist.refl _))) hs, ?_⟩
  refine List.Perm.trans List.perm_middle.symm (List.Perm.append_left _ ?_)
  exact (List.Perm.append_right _ (List.perm_cons_erase hx).symm : (x :: b.erase x ++ B₂.flatten).Perm (b ++ B₂.flatten))
end
/-! ### lists by places -/
section
variable {α : Type}
theorem set_mid {l₁ l₂ : List α} {a b : α} : (l₁ ++ a :: l₂).set l₁.length b = l₁ ++ b :: l₂ := by
  rw [List.set_append_right _ _ (Nat.le_refl _), Nat.sub_self, List.set_cons_zero]
theorem erase_mid {l₁ l₂ : List α} {a : α} : (l₁ ++ a :: l₂).eraseIdx l₁.length = l₁ ++ l₂ := by
  rw [List.eraseIdx_append_of_length_le (Nat.le_refl _), Nat.sub_self, List.eraseIdx_zero, List.tail_cons]
theorem get_mid {l₁ l₂ : List α} {a : α} : (l₁ ++ a :: l₂)[l₁.length]? = some a := by
  rw [List.getElem?_append_right (Nat.le_refl _), Nat.sub_self, List.getElem?_cons_zero]
theorem split_at {l : List α} {i : Nat} {a : α} (h : l[i]? = some a) : ∃ l₁ l₂, l = l₁ ++ a :: l₂ ∧ l₁.length = i := by
  obtain ⟨hi, e⟩ := List.getElem?_eq_some_iff.mp h
  refine ⟨l.take i, l.drop (i + 1), ?_, by rw [List.length_take]; omega⟩
  rw [← e, List.getElem_cons_drop, List.take_append_drop]
end
end TO

set_option linter.all false
namespace TO
open PySem PySem.W PyProof.Rows
/-- the place a of the rearranging -/
abbrev pg (p : Array Nat) (a : Nat) : Nat := p.getD a 0
structure Rear (n : Nat) (p : Array Nat) : Prop where
  perm : p.Perm (List.toArray (List.range n))
theorem Rear.size {n : Nat} {p : Array Nat} (h : Rear n p) : p.size = n := by
  have := h.perm.size_eq; simpa using this
theorem pg_eq (p : Array Nat) (a : Nat) : pg p a = (p[a]?).getD 0 := Array.getD_eq_getD_getElem?
theorem Rear.lt {n : Nat} {p : Array Nat} (h : Rear n p) {a : Nat} (ha : a < n) : pg p a < n := by
  have hs := h.size
  have : p[a]'(by omega) ∈ p := Array.getElem_mem _
  have := h.perm.mem_iff.mp this
  rw [pg_eq, getElem?_pos p a (by omega)]
  simpa using this
theorem Rear.nodup {n : Nat} {p : Array Nat} (h : Rear n p) : p.toList.Nodup := by
  have := (Array.perm_iff_toList_perm.mp h.perm).nodup_iff.mpr (by simpa using List.nodup_range)
  exact this
theorem Rear.inj {n : Nat} {p : Array Nat} (h : Rear n p) {a b : Nat} (ha : a < n) (hb : b < n) (hab : a ≠ b) : pg p a ≠ pg p b := by
  have hs := h.size
  intro e
  rw [pg_eq, pg_eq, getElem?_pos p a (by omega), getElem?_pos p b (by omega)] at e
  have e' : p.toList[a]'(by simp; omega) = p.toList[b]'(by simp; omega) := by simpa using e
  have hp := List.pairwise_iff_getElem.mp h.nodup
  rcases Nat.lt_or_gt_of_ne hab with q | q
  · exact hp a b _ _ q e'
  · exact hp b a _ _ q e'.symm
/-- a strict order of the places below n -/
structure SO (n : Nat) (lt : Nat → Nat → Bool) : Prop where
  tr : ∀ a b c, a < n → b < n → c < n → lt a b = true → lt b c = true → lt a c = true
  tri : ∀ a b, a < n → b < n → a ≠ b → lt a b = false → lt b a = true
def Up (lt : Nat → Nat → Bool) (p : Array Nat) (m : Nat) : Prop := ∀ a b, a < b → b < m → lt (pg p a) (pg p b) = true
def Dn (lt : Nat → Nat → Bool) (p : Array Nat) (m : Nat) : Prop := ∀ a b, a < b → b < m → lt (pg p b) (pg p a) = true
section
variable {n : Nat} {s : Shared} {lt : Nat → Nat → Bool} {cmp : Nat → Nat → (Bool → Shared → Prop) → Shared → Prop}
theorem Up.next (O : SO n lt) {p : Array Nat} (R : Rear n p) {m : Nat} (h : Up lt p m) (h1 : 1 ≤ m) (hm : m < n) (hl : lt (pg p (m - 1)) (pg p m) = true) : Up lt p (m + 1) := by
  intro a b hab hb
  by_cases e : b = m
  · subst e
    by_cases e2 : a = b - 1
    · subst e2; exact hl
    · exact O.tr _ _ _ (R.lt (by omega)) (R.lt (by omega)) (R.lt hm) (h a (b - 1) (by omega) (by omega)) hl
  · exact h a b hab (by omega)
theorem Dn.next (O : SO n lt) {p : Array Nat} (R : Rear n p) {m : Nat} (h : Dn lt p m) (h1 : 1 ≤ m) (hm : m < n) (hl : lt (pg p m) (pg p (m - 1)) = true) : Dn lt p (m + 1) := by
  intro a b hab hb
  by_cases e : b = m
  · subst e
    by_cases e2 : a = b - 1
    · subst e2; exact hl
    · exact O.tr _ _ _ (R.lt (by omega)) (R.lt (by omega)) (R.lt (by omega)) hl (h a (b - 1) (by omega) (by omega))
  · exact h a b hab (by omega)
theorem asc_ok (O : SO n lt) (hc : ∀ i j C, i < n → j < n → C (lt i j) s → cmp i j C s) {p : Array Nat} (R : Rear n p) {Q : Nat → Shared → Prop} :
    ∀ (f a : Nat), 1 ≤ a → a + f = n → Up lt p a → (∀ m, a ≤ m → m ≤ n → Up lt p m → (m = n ∨ (m < n ∧ lt (pg p m) (pg p (m - 1)) = true)) → Q m s) → (kas_asc p f a).kasWp cmp Q s
  | 0, a, h1, ha, hu, hq => hq a (Nat.le_refl _) (by omega) hu (.inl (by omega))
  | f + 1, a, h1, ha, hu, hq => by
    have han : a < n := by omega
    refine hc _ _ _ (R.lt han) (R.lt (by omega)) ?_
    cases e : lt (pg p a) (pg p (a - 1)) with
    | true => exact hq a (Nat.le_refl _) (by omega) hu (.inr ⟨han, e⟩)
    | false =>
      have hl := O.tri _ _ (R.lt han) (R.lt (by omega)) (R.inj han (by omega) (by omega)) e
      exact asc_ok O hc R f (a + 1) (by omega) (by omega) (hu.next O R h1 han hl) fun m hm hm2 => hq m (by omega) hm2
theorem desc_ok (O : SO n lt) (hc : ∀ i j C, i < n → j < n → C (lt i j) s → cmp i j C s) {p : Array Nat} (R : Rear n p) {Q : Array Nat × Nat × Nat → Shared → Prop} :
    ∀ (f a : Nat), 1 ≤ a → a + f = n → Dn lt p a → (∀ m, a ≤ m → m ≤ n → Dn lt p m → Q (p, m, 0) s) → (kas_desc f p a 0).kasWp cmp Q s
  | 0, a, h1, ha, hu, hq => hq a (Nat.le_refl _) (by omega) hu
  | f + 1, a, h1, ha, hu, hq => by
    have han : a < n := by omega
    refine hc _ _ _ (R.lt han) (R.lt (by omega)) ?_
    cases e : lt (pg p a) (pg p (a - 1)) with
    | true =>
      dsimp only; rw [if_pos rfl, if_neg (by omega)]
      exact desc_ok O hc R f (a + 1) (by omega) (by omega) (hu.next O R h1 han e) fun m hm hm2 => hq m (by omega) hm2
    | false =>
      have hl := O.tri _ _ (R.lt han) (R.lt (by omega)) (R.inj han (by omega) (by omega)) e
      refine hc _ _ _ (R.lt (by omega)) (R.lt han) ?_
      rw [show lt (p.getD (a - 1) 0) (p.getD a 0) = true from hl]
      exact hq a (Nat.le_refl _) (by omega) hu
theorem pg_rev {p : Array Nat} {m : Nat} (hm : m ≤ p.size) (k : Nat) : pg (kas_rev p 0 m) k = if k < m then pg p (m - 1 - k) else pg p k := by
  rw [pg_eq, pg_eq, pg_eq]
  unfold kas_rev
  rw [getElem?_mirror_all hm]
  by_cases h : k < m
  · rw [if_pos ⟨Nat.zero_le _, h⟩, if_pos h, Nat.zero_add]
  · rw [if_neg (fun q => h q.2), if_neg h]
theorem Rear.rev {p : Array Nat} (R : Rear n p) (i j : Nat) : Rear n (kas_rev p i j) := ⟨(mirror_perm _ _ _ _).trans R.perm⟩
theorem Dn.rev {p : Array Nat} (R : Rear n p) {m : Nat} (h : Dn lt p m) (hm : m ≤ n) : Up lt (kas_rev p 0 m) m := by
  intro a b hab hb
  have hs := R.size
  rw [pg_rev (by omega), pg_rev (by omega), if_pos (by omega), if_pos hb]
  exact h (m - 1 - b) (m - 1 - a) (by omega) (by omega)
theorem count_ok (O : SO n lt) (hc : ∀ i j C, i < n → j < n → C (lt i j) s → cmp i j C s) {p : Array Nat} (R : Rear n p) (hn : 1 ≤ n) {Q : Nat × Array Nat → Shared → Prop}
    (hq : ∀ m p', Rear n p' → 1 ≤ m → m ≤ n → Up lt p' m → Q (m, p') s) : (kas_count n p).kasWp cmp Q s := by
  unfold kas_count
  rw [KasT.kasWp_bind]
  refine asc_ok O hc R (n - 1) 1 (Nat.le_refl _) (by omega) (fun a b _ _ => by omega) fun m h1 hm hu hend => ?_
  by_cases e : m = n
  · subst e
    rw [if_pos (by simp)]
    exact hq m p R h1 hm hu
  · rw [if_neg (by simpa using e)]
    by_cases g : m > 1
    · rw [if_pos g]
      refine hc _ _ _ (R.lt (by omega)) (R.lt (by omega)) ?_
      rw [hu 0 (m - 1) (by omega) (by omega)]
      exact hq m p R h1 hm hu
    · rw [if_neg g]
      have e1 : m = 1 := by omega
      subst e1
      have hl : lt (pg p 1) (pg p 0) = true := by
        rcases hend with q | q
        · exact absurd q e
        · exact q.2
      unfold kas_descPart
      rw [KasT.kasWp_bind]
      refine desc_ok O hc R (n - 2) 2 (by omega) (by omega) (fun a b hab hb => ?_) fun m h2 hm hd => ?_
      · have : a = 0 := by omega
        have : b = 1 := by omega
        subst a b; exact hl
      · rw [if_neg (by simp)]
        unfold kas_tail3
        rw [KasT.kasWp_bind]
        exact asc_ok O hc (R.rev 0 m) (n - m) m (by omega) (by omega) (hd.rev R hm) fun k hk hk2 hu _ => hq k _ (R.rev 0 m) (by omega) hk2 hu
theorem place_ok (O : SO n lt) (hc : ∀ i j C, i < n → j < n → C (lt i j) s → cmp i j C s) {p : Array Nat} (R : Rear n p) {k : Nat} (hk : k < n) (hu : Up lt p k) {Q : Nat → Shared → Prop} :
    ∀ (f l r : Nat), l ≤ r → r ≤ k → r - l ≤ f → (∀ a, a < l → lt (pg p a) (pg p k) = true) → (∀ a, r ≤ a → a < k → lt (pg p k) (pg p a) = true) →
      (∀ l, l ≤ k → (∀ a, a < l → lt (pg p a) (pg p k) = true) → (∀ a, l ≤ a → a < k → lt (pg p k) (pg p a) = true) → Q l s) → (kas_place p k f l r).kasWp cmp Q s
  | 0, l, r, h1, h2, h3, ha, hb, hq => by
    have : l = r := by omega
    subst this
    exact hq l h2 ha hb
  | f + 1, l, r, h1, h2, h3, ha, hb, hq => by
    unfold kas_place
    by_cases e : l ≥ r
    · rw [if_pos e]
      have : l = r := by omega
      subst this
      exact hq l h2 ha hb
    · rw [if_neg e]
      refine hc _ _ _ (R.lt hk) (R.lt (by omega)) ?_
      cases c : lt (pg p k) (pg p ((l + r) / 2)) with
      | true =>
        refine place_ok O hc R hk hu f l ((l + r) / 2) (by omega) (by omega) (by omega) ha (fun a h4 h5 => ?_) hq
        by_cases e3 : a = (l + r) / 2
        · subst e3; exact c
        · exact O.tr _ _ _ (R.lt hk) (R.lt (by omega)) (R.lt (by omega)) c (hu _ a (by omega) h5)
      | false =>
        have c' := O.tri _ _ (R.lt hk) (R.lt (by omega)) (R.inj hk (by omega) (by omega)) c
        refine place_ok O hc R hk hu f ((l + r) / 2 + 1) r (by omega) h2 (by omega) (fun a h4 => ?_) hb hq
        by_cases e3 : a = (l + r) / 2
        · subst e3; exact c'
        · exact O.tr _ _ _ (R.lt (by omega)) (R.lt (by omega)) (R.lt hk) (hu a _ (by omega) (by omega)) c'
theorem pg_bubble {p : Array Nat} {k d : Nat} (hk : k < p.size) (hd : d ≤ k) (a : Nat) : pg (bubble p k d) a = if a = k - d then pg p k else if k - d < a ∧ a ≤ k then pg p (a - 1) else pg p a := by
  rw [pg_eq, pg_eq, pg_eq, pg_eq, getElem?_bubble hk d hd]
  repeat' split
  all_goals rfl
theorem bin_ok (O : SO n lt) (hc : ∀ i j C, i < n → j < n → C (lt i j) s → cmp i j C s) {Q : Array Nat → Shared → Prop} :
    ∀ (f k : Nat) (p : Array Nat), Rear n p → k + f = n → Up lt p k → (∀ p', Rear n p' → Up lt p' n → Q p' s) → (kas_bin f p k).kasWp cmp Q s
  | 0, k, p, R, hk, hu, hq => by
    have : k = n := by omega
    subst this
    exact hq p R hu
  | f + 1, k, p, R, hk, hu, hq => by
    unfold kas_bin
    rw [KasT.kasWp_bind]
    have hs := R.size
    refine place_ok O hc R (by omega) hu k 0 k (by omega) (Nat.le_refl _) (by omega) (fun a h => by omega) (fun a h1 h2 => by omega) fun l hl h1 h2 => ?_
    refine bin_ok O hc f (k + 1) _ ⟨(bubble_perm _ _ _).trans R.perm⟩ (by omega) (fun a b hab hb => ?_) hq
    rw [pg_bubble (by omega) (by omega), pg_bubble (by omega) (by omega)]
    have e : k - (k - l) = l := by omega
    rw [e]
    by_cases a1 : a = l
    · rw [if_pos a1, if_neg (by omega), if_pos (by omega)]
      exact h2 _ (by omega) (by omega)
    · rw [if_neg a1]
      by_cases a2 : l < a ∧ a ≤ k
      · rw [if_pos a2, if_neg (by omega), if_pos (by omega)]
        exact hu _ _ (by omega) (by omega)
      · rw [if_neg a2]
        by_cases b1 : b = l
        · rw [if_pos b1]
          exact h1 _ (by omega)
        · rw [if_neg b1]
          by_cases b2 : l < b ∧ b ≤ k
          · rw [if_pos b2]
            by_cases b3 : a < b - 1
            · exact hu _ _ b3 (by omega)
            · omega
          · rw [if_neg b2]
            exact hu _ _ hab (by omega)
/-- the sort asks no more than it needs, and its end is in order -/
theorem sort_ok (O : SO n lt) (hc : ∀ i j C, i < n → j < n → C (lt i j) s → cmp i j C s) (hn : 1 ≤ n) {Q : Array Nat → Shared → Prop} (hq : ∀ p, Rear n p → Up lt p n → Q p s) : (kas_sort n).kasWp cmp Q s := by
  unfold kas_sort
  rw [KasT.kasWp_bind]
  refine count_ok O hc ⟨Array.Perm.refl _⟩ hn fun m p R h1 h2 hu => ?_
  by_cases e : m < n
  · rw [if_pos e]
    have e2 : max m 1 = m := by omega
    dsimp only
    rw [e2]
    exact bin_ok O hc _ m p R (by omega) hu hq
  · rw [if_neg e]
    have : m = n := by omega
    subst this
    exact hq p R hu
end
end TO

set_option linter.all false
namespace TO
open PySem L2
/-! ### the order of flat values -/
theorem ltV_irrefl (x : V) : ltV x x = false := by
  cases x <;> simp [ltV]
theorem ltV_trans {x y z : V} (h1 : ltV x y = true) (h2 : ltV y z = true) : ltV x z = true := by
  cases x <;> cases y <;> (try simp [ltV] at h1) <;> cases z <;> (try simp [ltV] at h2)
  · simp only [ltV, decide_eq_true_eq]; omega
  · simp only [ltV, decide_eq_true_eq]; exact List.lt_trans h1 h2
theorem str_ext {a b : Str} (h : a.cps.toList = b.cps.toList) : a = b := by
  cases a; cases b; simp at h; simp [h]
theorem ltV_tri {x y : V} (ha : alikeV x y = true) (h : ltV x y = false) (hn : x ≠ y) : ltV y x = true := by
  cases x <;> cases y <;> (try cases ha)
  · rename_i a b
    simp only [ltV, decide_eq_false_iff_not, decide_eq_true_eq] at h ⊢
    have : a ≠ b := fun e => hn (by rw [e])
    omega
  · rename_i a b
    simp only [ltV, decide_eq_false_iff_not, decide_eq_true_eq] at h ⊢
    have hne : a.cps.toList ≠ b.cps.toList := fun e => hn (by rw [str_ext e])
    have h' : b.cps.toList ≤ a.cps.toList := h
    rcases List.le_iff_lt_or_eq.mp h' with q | q
    · exact q
    · exact absurd q.symm hne
theorem ltV_asymm {x y : V} (h : ltV x y = true) : ltV y x = false := by
  cases e : ltV y x with
  | false => rfl
  | true => have := ltV_trans h e; rw [ltV_irrefl] at this; cases this
theorem ltV_ne {x y : V} (h : ltV x y = true) : x ≠ y := fun e => by rw [e, ltV_irrefl] at h; cases h
theorem lexV_irrefl : ∀ xs : List V, lexV xs xs = false
  | [] => rfl
  | x :: r => by rw [lexV_cons, if_pos rfl]; exact lexV_irrefl r
theorem lexV_trans : ∀ {xs ys zs : List V}, lexV xs ys = true → lexV ys zs = true → lexV xs zs = true
  | [], [], _, h, _ => by cases h
  | [], _ :: _, [], _, h => by cases h
  | [], _ :: _, _ :: _, _, _ => rfl
  | _ :: _, [], _, h, _ => by cases h
  | _ :: _, _ :: _, [], _, h => by cases h
  | x :: xs, y :: ys, z :: zs, h1, h2 => by
    rw [lexV_cons] at h1 h2 ⊢
    by_cases e1 : x = y
    · subst e1
      rw [if_pos rfl] at h1
      by_cases e2 : x = z
      · rw [if_pos e2] at h2 ⊢
        exact lexV_trans h1 h2
      · rw [if_neg e2] at h2 ⊢
        exact h2
    · rw [if_neg e1] at h1
      by_cases e2 : y = z
      · subst e2
        rw [if_neg e1]
        exact h1
      · rw [if_neg e2] at h2
        have h3 := ltV_trans h1 h2
        rw [if_neg (ltV_ne h3)]
        exact h3
/-! ### rows -/
structure Row where
  n : Int
  r : Int
  t : Str
deriving DecidableEq
def rowV (ρ : Row) : List V := [.int ρ.n, .int ρ.r, .str ρ.t]
theorem rowV_inj {ρ ρ' : Row} (h : rowV ρ = rowV ρ') : ρ = ρ' := by
  cases ρ; cases ρ'; simp [rowV] at h; simp [h]
/-- what an order places a row by; w: by text -/
def lead (w : Bool) (ρ : Row) : V := if w = true then .str ρ.t else .int ρ.r
def keyV (w : Bool) (ρ : Row) : List V := [lead w ρ, .int ρ.n]
def ltR (w : Bool) (a b : Row) : Bool := lexV (keyV w a) (keyV w b)
theorem lead_alike (w : Bool) (a b : Row) : alikeV (lead w a) (lead w b) = true := by cases w <;> rfl
theorem key_alike (w : Bool) (a b : Row) : Alike (keyV w a) (keyV w b) := ⟨lead_alike w a b, rfl, trivial⟩
theorem ltR_irrefl (w : Bool) (a : Row) : ltR w a a = false := lexV_irrefl _
theorem ltR_trans (w : Bool) (a b c : Row) (h1 : ltR w a b = true) (h2 : ltR w b c = true) : ltR w a c = true := lexV_trans h1 h2
theorem ltR_tri {w : Bool} {a b : Row} (hn : a.n ≠ b.n) : ltR w a b = true ∨ ltR w b a = true := by
  unfold ltR keyV
  rw [lexV_cons (lead w a), lexV_cons (lead w b)]
  by_cases e : lead w a = lead w b
  · rw [if_pos e, if_pos e.symm, lexV_cons (.int a.n), lexV_cons (.int b.n)]
    have n1 : ¬ V.int a.n = V.int b.n := fun q => hn (by injection q)
    have n2 : ¬ V.int b.n = V.int a.n := fun q => hn (by injection q with q; exact q.symm)
    rw [if_neg n1, if_neg n2]
    simp only [ltV, decide_eq_true_eq]
    omega
  · rw [if_neg e, if_neg (fun q : lead w b = lead w a => e q.symm)]
    cases q : ltV (lead w a) (lead w b) with
    | true => exact .inl rfl
    | false => exact .inr (ltV_tri (lead_alike w a b) q e)
theorem down_key (w : Bool) (q : List V) : Down (ltR w) fun x => lexV (keyV w x) q := fun _ _ h1 h2 => lexV_trans h1 h2
/-- a lead alone as a key: less than it is less than the lead -/
theorem lex_lead (w : Bool) (x : Row) (l : V) : lexV (keyV w x) [l] = ltV (lead w x) l := by
  unfold keyV
  rw [lexV_cons]
  by_cases e : lead w x = l
  · rw [if_pos e, e, ltV_irrefl]; rfl
  · rw [if_neg e]
/-- rows in order have leads in order -/
theorem ltR_lead {w : Bool} {a b : Row} (h : ltR w a b = true) : ltV (lead w b) (lead w a) = false := by
  unfold ltR keyV at h
  rw [lexV_cons] at h
  by_cases e : lead w a = lead w b
  · rw [e]; exact ltV_irrefl _
  · rw [if_neg e] at h
    exact ltV_asymm h
end TO

set_option linter.all false
set_option maxRecDepth 100000
set_option maxHeartbeats 4000000
namespace TO
open PySem PySem.Spec PyProof.Rows L2
/-! ### rows in the heap -/
def RowAt (H : Hp) (a : Addr) (ρ : Row) : Prop := H a = some (.tup (rowV ρ))
abbrev RowsAt (H : Hp) : List Addr → List Row → Prop := Paired (RowAt H)
/-- a list of rows -/
def LstAt (H : Hp) (l : Addr) (ρs : List Row) : Prop := ∃ as : List Addr, H l = some (.lst (as.map .ref)) ∧ RowsAt H as ρs
theorem RowsAt.same {H H' : Hp} (s : ∀ b xs, H b = some (.tup xs) → H' b = some (.tup xs)) : ∀ {as : List Addr} {ρs : List Row}, RowsAt H as ρs → RowsAt H' as ρs
  | _, _, .nil => .nil
  | _, _, .cons h t => .cons (s _ _ h) (RowsAt.same s t)
theorem RowsAt.app {H : Hp} : ∀ {as bs : List Addr} {ρs κs : List Row}, RowsAt H as ρs → RowsAt H bs κs → RowsAt H (as ++ bs) (ρs ++ κs)
  | _, _, _, _, .nil, h => h
  | _, _, _, _, .cons a t, h => .cons a (RowsAt.app t h)
theorem RowsAt.get {H : Hp} : ∀ {as : List Addr} {ρs : List Row} {i : Nat} {ρ : Row}, RowsAt H as ρs → ρs[i]? = some ρ → ∃ a, as[i]? = some a ∧ RowAt H a ρ
  | _, _, _, _, .nil, e => by simp at e
  | _, _, 0, _, .cons r _, e => by simp at e; subst e; exact ⟨_, rfl, r⟩
  | _, _, i + 1, _, .cons _ t, e => by
    obtain ⟨u, h1, h2⟩ := RowsAt.get (i := i) t (by simpa using e)
    exact ⟨u, by simpa using h1, h2⟩
theorem RowsAt.get' {H : Hp} : ∀ {as : List Addr} {ρs : List Row} {i : Nat} {a : Addr}, RowsAt H as ρs → as[i]? = some a → ∃ ρ, ρs[i]? = some ρ ∧ RowAt H a ρ
  | _, _, _, _, .nil, e => by simp at e
  | _, _, 0, _, .cons r _, e => by simp at e; subst e; exact ⟨_, rfl, r⟩
  | _, _, i + 1, _, .cons _ t, e => by
    obtain ⟨u, h1, h2⟩ := RowsAt.get' (i := i) t (by simpa using e)
    exact ⟨u, by simpa using h1, h2⟩
theorem RowsAt.len {H : Hp} {as : List Addr} {ρs : List Row} (h : RowsAt H as ρs) : as.length = ρs.length := Paired.length h
theorem RowsAt.take {H : Hp} : ∀ {as : List Addr} {ρs : List Row} (n : Nat), RowsAt H as ρs → RowsAt H (as.take n) (ρs.take n)
  | _, _, 0, _ => .nil
  | _, _, _ + 1, .nil => .nil
  | _, _, n + 1, .cons r t => .cons r (RowsAt.take n t)
theorem RowsAt.drop {H : Hp} : ∀ {as : List Addr} {ρs : List Row} (n : Nat), RowsAt H as ρs → RowsAt H (as.drop n) (ρs.drop n)
  | _, _, 0, r => r
  | _, _, _ + 1, .nil => .nil
  | _, _, n + 1, .cons _ t => RowsAt.drop n t
theorem RowsAt.eraseIdx {H : Hp} : ∀ {as : List Addr} {ρs : List Row} (n : Nat), RowsAt H as ρs → RowsAt H (as.eraseIdx n) (ρs.eraseIdx n)
  | _, _, _, .nil => .nil
  | _, _, 0, .cons _ t => t
  | _, _, n + 1, .cons r t => .cons r (RowsAt.eraseIdx n t)
theorem LstAt.same {H H' : Hp} {l : Addr} {ρs : List Row} (h : LstAt H l ρs) (e : H' l = H l) (s : ∀ b xs, H b = some (.tup xs) → H' b = some (.tup xs)) : LstAt H' l ρs := by
  obtain ⟨as, h1, h2⟩ := h
  exact ⟨as, e.trans h1, h2.same s⟩
theorem LstAt.sameS {H H' : Hp} {l : Addr} {ρs : List Row} (h : LstAt H l ρs) (s : Same H H') : LstAt H' l ρs := by
  obtain ⟨as, h1, h2⟩ := h
  exact ⟨as, s _ _ h1, h2.same fun b xs q => s _ _ q⟩
/-! ### list.remove of a row -/
theorem erase_map {α β : Type} (f : α → β) : ∀ (l : List α) (i : Nat), (l.map f).eraseIdx i = (l.eraseIdx i).map f
  | [], _ => rfl
  | _ :: _, 0 => rfl
  | a :: r, i + 1 => by simp [erase_map f r i]
theorem valsRefs : ∀ as : List Addr, Vals (as.map V.ref) (as.map Value.ref)
  | [] => .nil
  | _ :: r => .cons rfl (valsRefs r)
theorem idxOf_min {α : Type} [DecidableEq α] {a : α} : ∀ {l : List α} {m : Nat}, m < l.idxOf a → l[m]? ≠ some a
  | [], m, h => by simp
  | x :: r, m, h => by
    rw [List.idxOf_cons] at h
    cases e : x == a with
    | true => rw [e] at h; simp at h
    | false =>
      rw [e] at h
      cases m with
      | zero => intro q; simp at q; subst q; simp at e
      | succ m =>
        rw [List.getElem?_cons_succ]
        exact idxOf_min (by simpa using h)
section
variable {X : Cx}
theorem eqRow {pins : List (Addr × Obj)} {σ : L2.St} {H : Hp} {s : Shared} {A : Around} (I : Inv X pins σ H s) {a b : Addr} {ρ ρ' : Row} (hb : RowAt H b ρ') (ha : RowAt H a ρ) (hu : A.units < cLine) : SeqAt.EqAt A s (.ref b) (.ref a) (decide (ρ' = ρ)) := by
  by_cases e : b = a
  · subst e
    have : ρ' = ρ := rowV_inj (by have := hb.symm.trans ha; injection this with this; injection this)
    subst this
    rw [decide_eq_true rfl]
    exact SeqAt.EqAt.same _
  · obtain ⟨ib, rb, pb, _⟩ := I.tuple (SqT.of hb : SqT X.K H b (rowV ρ'))
    obtain ⟨ia, ra, pa, _⟩ := I.tuple (SqT.of ha : SqT X.K H a (rowV ρ))
    have lb := rb.length
    have la := ra.length
    have hlb : ib.length = 3 := by rw [← lb]; rfl
    have hla : ia.length = 3 := by rw [← la]; rfl
    have z := SeqAt.RcAt.tuples (A := A) (s := s) (l := b) (b := a) (items := ib.toArray) (items2 := ia.toArray) (e := fun j => decide ((rowV ρ')[j]? = (rowV ρ)[j]?)) pb pa hu (fun j h1 h2 => by
      have h1' : j < 3 := by simpa [hlb] using h1
      have g1 : ∃ x, (rowV ρ')[j]? = some x := ⟨_, List.getElem?_eq_getElem (show j < 3 from h1')⟩
      have g2 : ∃ x, (rowV ρ)[j]? = some x := ⟨_, List.getElem?_eq_getElem (show j < 3 from h1')⟩
      obtain ⟨x, ex⟩ := g1
      obtain ⟨y, ey⟩ := g2
      obtain ⟨u, eu, ru⟩ := rb.get ex
      obtain ⟨v, ev, rv⟩ := ra.get ey
      have q1 : ib.toArray[j] = u := by
        have : ib[j]? = some ib[j] := List.getElem?_eq_getElem (by omega)
        rw [this] at eu
        simpa using eu
      have q2 : ia.toArray[j] = v := by
        have : ia[j]? = some ia[j] := List.getElem?_eq_getElem (by omega)
        rw [this] at ev
        simpa using ev
      rw [q1, q2, ex, ey]
      have al : alikeV x y = true := by
        match j, h1' with
        | 0, _ => simp [rowV] at ex ey; subst ex ey; rfl
        | 1, _ => simp [rowV] at ex ey; subst ex ey; rfl
        | 2, _ => simp [rowV] at ex ey; subst ex ey; rfl
      have := alike_eqAt (A := A.in1) (s := s) ru rv al
      have e2 : decide (some x = some y) = decide (x = y) := by simp
      rw [e2]
      exact this)
    refine SeqAt.EqAt.of_refs e ?_
    have e3 : ((List.range (min ib.toArray.size ia.toArray.size)).all (fun j => decide ((rowV ρ')[j]? = (rowV ρ)[j]?)) && ib.toArray.size == ia.toArray.size) = decide (ρ' = ρ) := by
      rw [List.size_toArray, List.size_toArray, hlb, hla]
      by_cases q : ρ' = ρ
      · subst q; simp
      · rw [decide_eq_false q]
        cases c : ((List.range (min 3 3)).all (fun j => decide ((rowV ρ')[j]? = (rowV ρ)[j]?)) && (3 : Nat) == 3) with
        | false => rfl
        | true =>
          exfalso
          apply q
          apply rowV_inj
          simp [List.range, List.range.loop, rowV] at c
          simp [rowV, c]
    rw [e3] at z
    exact z
def rRemove : V → List V → Hp → VK → Prop := fun x vs H Q => ∃ l, ∃ as : List Addr, ∃ a, ∃ ρs : List Row, ∃ ρ, x = .ref l ∧ vs = [.ref a] ∧ H l = some (.lst (as.map .ref)) ∧ RowsAt H as ρs ∧ RowAt H a ρ ∧ ρ ∈ ρs ∧
  Q .non (upd H l (.lst ((as.eraseIdx (ρs.idxOf ρ)).map .ref)))
theorem mt_remove (hu : X.A.units + 1 < cLine) : MtM X "list.remove" rRemove := by
  intro pins s σ H x vs v us Q I rx rv h
  obtain ⟨l, as, a, ρs, ρ, rfl, rfl, hH, hR, ha, hm, q⟩ := h
  cases rx
  obtain ⟨u, rfl, ru⟩ := rv.one
  cases ru
  obtain ⟨z, its, n, r, hl, e⟩ := I.lstM hH
  have e1 := refs_vals r
  subst e1
  have hlen := hR.len
  have hj : ρs.idxOf ρ < ρs.length := List.idxOf_lt_length_of_mem hm
  let ev : Value → Bool := fun v => match v with
    | .ref b => (match H b with | some (.tup ys) => decide (ys = rowV ρ) | _ => false)
    | _ => false
  have hev : ∀ b ρ', RowAt H b ρ' → ev (.ref b) = decide (ρ' = ρ) := fun b ρ' hb => by
    show (match H b with | some (.tup ys) => decide (ys = rowV ρ) | _ => false) = _
    rw [show H b = _ from hb]
    by_cases q : ρ' = ρ
    · subst q; simp
    · rw [decide_eq_false q]
      exact decide_eq_false fun q' => q (rowV_inj q')
  have hsz : (as.map Value.ref).toArray.size ≤ sizeLine := by rw [List.size_toArray, ← hl]; exact z
  have hjs : ρs.idxOf ρ < (as.map Value.ref).toArray.size := by simp; omega
  have item : ∀ m (hm : m < (as.map Value.ref).toArray.size), ∃ b ρ', (as.map Value.ref).toArray[m] = .ref b ∧ ρs[m]? = some ρ' ∧ RowAt H b ρ' := fun m hm => by
    have hm' : m < as.length := by simpa using hm
    obtain ⟨ρ', h1, h2⟩ := hR.get' (List.getElem?_eq_getElem hm')
    exact ⟨as[m], ρ', by simp, h1, h2⟩
  refine call_meets F.slot_list_remove ⟨_, e, rfl⟩ F.entry_list_remove (F.args_list_remove_2 _ _) (SeqAt.list_removeAt l (as.map Value.ref).toArray n (.ref a) ev (ρs.idxOf ρ) hjs ?_ ?_ hsz) ⟨e, fun y hy => ?_, ?_⟩
  · obtain ⟨b, ρ', e1, e2, hb⟩ := item _ hjs
    rw [e1, hev b ρ' hb]
    rw [List.getElem?_eq_getElem hj, List.getElem_idxOf hj] at e2
    cases e2
    exact decide_eq_true rfl
  · intro m hm hlt
    obtain ⟨b, ρ', e1, e2, hb⟩ := item m hm
    rw [e1, hev b ρ' hb]
    refine decide_eq_false fun q => ?_
    subst q
    exact idxOf_min hlt e2
  · obtain ⟨m, hm, e1⟩ := Array.getElem_of_mem hy
    obtain ⟨b, ρ', e2, e3, hb⟩ := item m hm
    rw [← e1, e2, hev b ρ' hb]
    exact eqRow I hb ha (by first | exact hu | simpa using hu)
  · refine ⟨.non, _, I.lset (its' := (as.eraseIdx (ρs.idxOf ρ)).map Value.ref) hH e ?_ ?_ ?_, rfl, q⟩
    · show (as.map Value.ref).toArray.eraseIdxIfInBounds (ρs.idxOf ρ) = _
      rw [List.eraseIdxIfInBounds_toArray, erase_map]
    · exact valsRefs _
    · rw [List.length_map]
      have := len_erase as (ρs.idxOf ρ)
      rw [List.length_map] at hl z
      omega
end
end TO

set_option linter.all false
set_option maxRecDepth 100000
set_option maxHeartbeats 4000000
namespace K1
open PySem L2 TO
def top (i : Nat) : Stmt := PySem.Challenge.pw_twoorders_k01_an_order.main.body.getD i (.Pass ⟨0, 0, 0, 0⟩)
abbrev sCW : Stmt := top 6
abbrev sLead : Stmt := top 7
abbrev sKey : Stmt := top 8
abbrev sC : Stmt := top 12
abbrev sInit : Stmt := inClass sC 0
abbrev sTake : Stmt := inClass sC 1
abbrev sLet : Stmt := inClass sC 2
abbrev sRows : Stmt := inClass sC 3
abbrev sAhead : Stmt := inClass sC 4
abbrev sBetw : Stmt := inClass sC 5
abbrev sBA : Stmt := inClass sC 6
abbrev sRA : Stmt := inClass sC 7
abbrev sSplit : Stmt := inClass sC 8
abbrev sJoin : Stmt := inClass sC 9
abbrev sWith : Stmt := top 13
def wordS (w : Bool) : Str := if w = true then "text" else "rank"
theorem rank_text : ¬ (("text" : Str) = "rank") := by decide +kernel
theorem wb : ¬ (("word" : Str) = "blocks") := by decide +kernel
/-- an order's attributes -/
def oflds (w : Bool) (bl : Addr) : List (Str × V) := putF "blocks" (.ref bl) (putF "word" (.str (wordS w)) [])
theorem oflds_word (w : Bool) (bl : Addr) : (oflds w bl).lookup ("word" : Str) = some (.str (wordS w)) := by
  unfold oflds
  rw [lookup_putF, if_neg wb, lookup_putF, if_pos rfl]
theorem oflds_blocks (w : Bool) (bl : Addr) : (oflds w bl).lookup ("blocks" : Str) = some (.ref bl) := by
  unfold oflds
  rw [lookup_putF, if_pos rfl]
theorem oflds_no (w : Bool) (bl : Addr) {m : Str} (h1 : ¬ m = "blocks") (h2 : ¬ m = "word") : (oflds w bl).lookup m = none := by
  unfold oflds
  rw [lookup_putF, if_neg h1, lookup_putF, if_neg h2]
  all_goals rfl
structure Txt (K : PySem.W.Frag) (mg : Str → Option Value) (C : Addr) : Prop where
  cl : Cls K C
  nW : NoAttr K C "word"
  nB : NoAttr K C "blocks"
  mgC : mg "Order" = some (.ref C)
  rank : ∃ t, mg "RANK_WORD" = some (.str "rank" t)
  text : ∃ t, mg "TEXT_WORD" = some (.str "text" t)
  most : ∃ t, mg "MOST_IN_A_BLOCK" = some (.int 8 t)
  least : ∃ t, mg "LEAST_IN_TWO_BLOCKS" = some (.int 5 t)
  len : mg "len" = none
  min : mg "min" = none
  sum : mg "sum" = none
theorem pe_gS {X : Cx} {x v : Str} {t : Tok} {pos : Pos} (hm : X.mg x = some (.str v t)) (hg : Gl X x := by rfl) (hd : (x == ("__debug__" : Str)) = false := by decide) : PE X (.Name x pos) (tC (.str v)) := pe_glob hg hm ⟨t, rfl⟩ hd
theorem pe_gI {X : Cx} {x : Str} {v : Int} {t : Tok} {pos : Pos} (hm : X.mg x = some (.int v t)) (hg : Gl X x := by rfl) (hd : (x == ("__debug__" : Str)) = false := by decide) : PE X (.Name x pos) (tC (.int v)) := pe_glob hg hm ⟨t, rfl⟩ hd
/-- a def of the top, called by its name -/
structure Gf (K : PySem.W.Frag) (mg : Str → Option Value) (x : Str) (f : Addr) (fd : FuncData) (ps : List Str) : Prop where
  mg : mg x = some (.ref f)
  kp : PySem.W.keepIn K (.ref f) = true
  b : Binds K fd ps []
section
variable {P : Program} {w : World} {K : PySem.W.Frag} {mg : Str → Option Value} {base : Heap}
/-! ### check_word, lead_of, key_of -/
def spCW : Sp := fun vs H Q _ => ∃ w, vs = [.str (wordS w)] ∧ Q .non H
theorem scCW : FnScope ["word"] ["word"] (defScope sCW) := ⟨rfl, rfl, rfl, by decide +kernel, rfl, by decide +kernel, by decide +kernel⟩
theorem ok_cw {f C : Addr} {fd : FuncData} (F : Fun K "check_word" "check_word" sCW f fd) (T : Txt K mg C) : FnOk P w K mg base CX0 1 f fd ["word"] spCW := by
  refine F.ok scCW (fun vs H Q E h => ?_) (fun cdv A outer s H vs Q E hr h => ?_)
  · obtain ⟨w, rfl, _⟩ := h
    rfl
  · obtain ⟨w, rfl, k⟩ := h
    obtain ⟨t1, h1⟩ := T.rank
    obtain ⟨t2, h2⟩ := T.text
    refine ⟨_, pss_one (ps_if (PW.pt (pw_and (pt_cmpR op_ne (pv 0) (pe_gS h1) (nomark _)) (pw_and1 (pt_cmpR op_ne (pv 0) (pe_gS h2) (nomark _))))) (pss_one ps_never) pss_nil), ?_⟩
    refine ⟨_, rfl, rfl, _, rfl, ?_⟩
    cases w with
    | false => exact k
    | true => 
      refine ite2 (fun _ => ?_) (fun _ => k)
      refine ⟨_, rfl, rfl, _, rfl, ?_⟩
      exact k
def spLead : Sp := fun vs H Q _ => ∃ w a ρ, vs = [.str (wordS w), .ref a] ∧ RowAt H a ρ ∧ Q (lead w ρ) H
theorem scLead : FnScope ["word", "row"] ["word", "row"] (defScope sLead) := ⟨rfl, rfl, rfl, by decide +kernel, rfl, by decide +kernel, by decide +kernel⟩
theorem ok_lead {f C : Addr} {fd : FuncData} (F : Fun K "lead_of" "lead_of" sLead f fd) (T : Txt K mg C) : FnOk P w K mg base CX0 1 f fd ["word", "row"] spLead := by
  refine F.ok scLead (fun vs H Q E h => ?_) (fun cdv A outer s H vs Q E hr h => ?_)
  · obtain ⟨w, a, ρ, rfl, _⟩ := h
    rfl
  · obtain ⟨w, a, ρ, rfl, ha, k⟩ := h
    obtain ⟨t1, h1⟩ := T.rank
    refine ⟨_, pss_cons (ps_if (pt_cmpR op_eq (pv 0) (pe_gS h1) (nomark _)) (pss_one (ps_ret (pe_ix ix_tup (pv 1) pe_int (fun _ _ => rfl)))) pss_nil)
      (pss_one (ps_ret (pe_ix ix_tup (pv 1) pe_int (fun _ _ => rfl)))), ?_⟩
    refine ⟨_, rfl, rfl, _, rfl, ?_⟩
    cases w with
    | false => exact ⟨_, rfl, a, _, _, _, rfl, rfl, SqT.of ha, atI_nat (j := 1) rfl, k⟩
    | true => exact ⟨_, rfl, a, _, _, _, rfl, rfl, SqT.of ha, atI_nat (j := 2) rfl, k⟩
def spKey : Sp := fun vs H Q _ => ∃ w a ρ, vs = [.str (wordS w), .ref a] ∧ RowAt H a ρ ∧ ∀ k, H k = none → Q (.ref k) (upd H k (.tup (keyV w ρ)))
theorem scKey : FnScope ["word", "row"] ["word", "row"] (defScope sKey) := ⟨rfl, rfl, rfl, by decide +kernel, rfl, by decide +kernel, by decide +kernel⟩
theorem ok_key {f fL C : Addr} {fd fdL : FuncData} (F : Fun K "key_of" "key_of" sKey f fd) (T : Txt K mg C) (gL : Gf K mg "lead_of" fL fdL ["word", "row"]) (GL : FnOk P w K mg base CX0 1 fL fdL ["word", "row"] spLead) :
    FnOk P w K mg base CX0 2 f fd ["word", "row"] spKey := by
  refine F.ok scKey (fun vs H Q E h => ?_) (fun cdv A outer s H vs Q E hr h => ?_)
  · obtain ⟨w, a, ρ, rfl, _⟩ := h
    rfl
  · obtain ⟨w, a, ρ, rfl, ha, k⟩ := h
    refine ⟨_, pss_one (ps_ret (pe_tup (pa_cons (pe_call GL hr rfl gL.mg gL.kp gL.b .nil pass0 (pa_cons (pv 0) (pa_cons (pv 1) pa_nil))) (pa_cons (pe_ix ix_tup (pv 1) pe_int (fun _ _ => rfl)) pa_nil)))), ?_⟩
    refine ⟨_, rfl, _, rfl, w, a, ρ, rfl, ha, ?_⟩
    exact ⟨_, rfl, a, _, _, _, rfl, rfl, SqT.of ha, atI_nat (j := 0) rfl, by show 2 ≤ sizeLine; decide, k⟩

/-! ### an order in the heap -/
/-- bl: the list of the blocks, bas: the blocks -/
structure OrdAt (C : Addr) (w : Bool) (H : Hp) (o bl : Addr) (bas : List Addr) (B : List (List Row)) : Prop where
  ob : ∃ dx, H o = some (.ins C dx (oflds w bl))
  ls : H bl = some (.lst (bas.map .ref))
  bs : Paired (LstAt H) bas B
  nd : (bl :: bas).Nodup
/-- all that was tracked but what stands in fp is as it was; what is new of fp' was free -/
structure Stp (H H' : Hp) (fp fp' : List Addr) : Prop where
  keep : ∀ b u, H b = some u → b ∉ fp → H' b = some u
  new : ∀ b ∈ fp', b ∈ fp ∨ H b = none
theorem Stp.of_same {H H' : Hp} {fp : List Addr} (s : Same H H') : Stp H H' fp fp := ⟨fun b u h _ => s b u h, fun b h => .inl h⟩
theorem Stp.tup {H H' : Hp} {fp fp' : List Addr} (s : Stp H H' fp fp') (hf : ∀ b ∈ fp, ∃ xs, H b = some (.lst xs)) : ∀ b xs, H b = some (.tup xs) → H' b = some (.tup xs) := fun b xs h => s.keep b _ h fun hb => by
  obtain ⟨ys, e⟩ := hf b hb
  rw [h] at e; cases e
theorem OrdAt.same {C : Addr} {w : Bool} {H H' : Hp} {o bl : Addr} {bas : List Addr} {B : List (List Row)} (h : OrdAt C w H o bl bas B) (s : Same H H') : OrdAt C w H' o bl bas B := by
  obtain ⟨⟨dx, h1⟩, h2, h3, h4⟩ := h
  exact ⟨⟨dx, s _ _ h1⟩, s _ _ h2, Paired.mapP h3 fun _ _ q => q.sameS s, h4⟩
theorem paired_get {α β : Type} {F : α → β → Prop} : ∀ {l₁ : List α} {l₂ : List β} {i : Nat} {b : β}, Paired F l₁ l₂ → l₂[i]? = some b → ∃ a, l₁[i]? = some a ∧ F a b
  | _, _, _, _, .nil, e => by simp at e
  | _, _, 0, _, .cons r _, e => by simp at e; subst e; exact ⟨_, rfl, r⟩
  | _, _, i + 1, _, .cons _ t, e => by
    obtain ⟨u, h1, h2⟩ := paired_get (i := i) t (by simpa using e)
    exact ⟨u, by simpa using h1, h2⟩
theorem Same.upd_new {H : Hp} {a : Addr} {o : HO} (h : H a = none) : Same H (upd H a o) := fun b u e => by rw [upd_ne (ne_of_none e h)]; exact e
/-! ### rows_ahead -/
theorem tw_len {α : Type} {P : α → Bool} : ∀ {l : List α} {i : Nat}, (∀ x ∈ l.take i, P x = true) → i ≤ l.length → (i = l.length ∨ ∃ x, l[i]? = some x ∧ P x = false) → (l.takeWhile P).length = i
  | [], i, _, h, _ => by simp at h; subst h; rfl
  | x :: r, 0, _, _, h => by
    rcases h with h | ⟨y, h1, h2⟩
    · simp at h
    · simp at h1; subst h1; simp [h2]
  | x :: r, i + 1, h1, h2, h3 => by
    have hx : P x = true := h1 x (by simp)
    rw [List.takeWhile_cons]
    simp only [hx, if_true, List.length_cons]
    congr 1
    refine tw_len (fun y hy => h1 y (by simp [hy])) (by simpa using h2) ?_
    rcases h3 with h3 | ⟨y, h3, h4⟩
    · left; simpa using h3
    · right; exact ⟨y, by simpa using h3, h4⟩
def spRA (C : Addr) : Sp := fun vs H Q _ => ∃ (w : Bool) (o bl dx b k : Addr) (ρs : List Row) (q : List V), vs = [.ref o, .ref b, .ref k] ∧ H o = some (.ins C dx (oflds w bl)) ∧ LstAt H b ρs ∧ H k = some (.tup q) ∧ (∀ ρ, Alike (keyV w ρ) q) ∧
  ∀ H', Same H H' → Q (.int (ρs.takeWhile fun x => lexV (keyV w x) q).length) H'
theorem scRA : FnScope ["self", "block", "key", "ahead"] ["self", "block", "key"] (defScope sRA) := ⟨rfl, rfl, rfl, by decide +kernel, rfl, by decide +kernel, by decide +kernel⟩
theorem ok_ra {f fK C : Addr} {fd fdK : FuncData} (F : Fun K "rows_ahead" "Order.rows_ahead" sRA f fd) (T : Txt K mg C) (gK : Gf K mg "key_of" fK fdK ["word", "row"]) (GK : FnOk P w K mg base CX0 2 fK fdK ["word", "row"] spKey) :
    FnOk P w K mg base CX0 3 f fd ["self", "block", "key"] (spRA C) := by
  refine F.ok scRA (fun vs H Q E h => ?_) (fun cdv A outer s H vs Q E hr h => ?_)
  · obtain ⟨w, o, bl, dx, b, k, ρs, q, rfl, _⟩ := h
    rfl
  · obtain ⟨w, o, bl, dx, b, k, ρs, q, rfl, ho, ⟨as, hb, hR⟩, hk, hal, fin⟩ := h
    have hu := hu_of hr
    refine ⟨_, pss_cons (ps_set (i := 3) scRA.nd rfl (Or.inl rfl) pe_int)
      (pss_cons (ps_while PassesOwn.never (PW.pt (pw_and (pt_cmpR op_lt (pv 3) (pe_callB call_len_seq (by rfl) T.len PySem.boot_len (pa_cons (pv 1) pa_nil)) (nomark _))
          (pw_and1 (pt_cmpR (op_ltTV hr.units0) (pe_call GK hr rfl gK.mg gK.kp gK.b .nil pass0 (pa_cons (pe_fld (pv 0) rfl) (pa_cons (pe_ix ix_list (pv 1) (pv 3) (fun _ _ => rfl)) pa_nil))) (pv 2) (nomark _)))))
        (pss_one (ps_set (i := 3) scRA.nd rfl (Or.inl rfl) (pe_op op_add (pv 3) pe_int))))
      (pss_one (ps_ret (pv 3)))), ?_⟩
    have hlen := hR.len
    refine ⟨fun m σ H1 => ∃ i : Nat, σ = [some (.ref o), some (.ref b), some (.ref k), some (.int i)] ∧ Same H H1 ∧ i ≤ ρs.length ∧ m = ρs.length - i ∧ ∀ x ∈ ρs.take i, lexV (keyV w x) q = true,
      ⟨_, 0, rfl, Same.refl _, Nat.zero_le _, rfl, by simp⟩, ?_⟩
    rintro m σ H1 ⟨i, rfl, s1, hi, rfl, hp⟩
    refine ⟨_, rfl, _, rfl, b, _, rfl, .inl (SqL.of (s1 _ _ hb)), _, _, rfl, rfl, _, rfl, ?_⟩
    refine ite2 (fun c => ?_) (fun c => ?_)
    · have hi' : i < ρs.length := by
        have := of_decide_eq_true c
        simp only [List.length_map] at this
        omega
      obtain ⟨x, hx⟩ : ∃ x, ρs[i]? = some x := ⟨_, List.getElem?_eq_getElem hi'⟩
      obtain ⟨a, ha, hr'⟩ := hR.get hx
      refine ⟨_, rfl, o, C, dx, _, _, rfl, s1 _ _ ho, T.cl, T.nW, oflds_word _ _, _, rfl, _, rfl, b, _, _, _, rfl, rfl, SqL.of (s1 _ _ hb), atI_nat (j := i) (by rw [List.getElem?_map, ha]; rfl), w, a, x, rfl, s1 _ _ hr', fun k' hk' => ?_⟩
      refine ⟨_, rfl, k', k, _, _, rfl, rfl, SqT.of upd_same, SqT.of ((Same.upd_new hk') _ _ (s1 _ _ hk)), hal x, _, rfl, ?_⟩
      refine ite2 (fun c2 => ?_) (fun c2 => ?_)
      · refine ⟨fun σ' H' => ∃ i' : Nat, i < i' ∧ σ' = [some (.ref o), some (.ref b), some (.ref k), some (.int i')] ∧ Same H H' ∧ i' ≤ ρs.length ∧ ∀ x ∈ ρs.take i', lexV (keyV w x) q = true, ?_, ?_⟩
        · rintro σ' H' ⟨i', h1, h2, h3, h4, h5⟩
          exact ⟨ρs.length - i', by omega, i', h2, h3, h4, rfl, h5⟩
        · refine ⟨_, rfl, _, _, rfl, rfl, i + 1, by omega, rfl, s1.trans (Same.upd_new hk'), hi', fun y hy => ?_⟩
          rw [List.take_add_one, hx] at hy
          rcases List.mem_append.mp hy with hy | hy
          · exact hp y hy
          · simp at hy; subst hy; exact c2
      · refine ⟨_, rfl, ?_⟩
        rw [← tw_len (P := fun x => lexV (keyV w x) q) hp hi (.inr ⟨x, hx, by simpa using c2⟩)]
        exact fin _ (s1.trans (Same.upd_new hk'))
    · refine iteF ?_
      refine ⟨_, rfl, ?_⟩
      have hi' : i = ρs.length := by
        have : ¬ ((i : Int) < _) := fun z => c (decide_eq_true z)
        simp only [List.length_map] at this
        omega
      rw [← tw_len (P := fun x => lexV (keyV w x) q) hp hi (.inl hi')]
      exact fin _ s1

/-! ### blocks_ahead -/
/-- the test on a block: its last row -/
def lastLt (w : Bool) (q : List V) (b : List Row) : Bool := match b.getLast? with
  | some z => lexV (keyV w z) q
  | none => false
theorem lastLt_mono {w : Bool} {q : List V} {B : List (List Row)} (hs : Srt (ltR w) B.flatten) (hne : ∀ b ∈ B, b ≠ []) {i j : Nat} {b c : List Row} (hi : B[i]? = some b) (hj : B[j]? = some c) (hij : i ≤ j) (h : lastLt w q c = true) : lastLt w q b = true := by
  by_cases e : i = j
  · subst e; rw [hi] at hj; cases hj; exact h
  · obtain ⟨l₁, l₂, rfl, rfl⟩ := split_at hi
    have hb := hne b (by simp)
    have hc : c ∈ l₂ := by
      rw [List.getElem?_append_right (by omega)] at hj
      obtain ⟨k, hk⟩ : ∃ k, j - l₁.length = k + 1 := ⟨j - l₁.length - 1, by omega⟩
      rw [hk, List.getElem?_cons_succ] at hj
      exact List.mem_of_getElem? hj
    unfold lastLt at h ⊢
    cases eb : b.getLast? with
    | none => rw [List.getLast?_eq_none_iff] at eb; exact absurd eb hb
    | some z =>
      cases ec : c.getLast? with
      | none => rw [ec] at h; cases h
      | some y =>
        rw [ec] at h
        rw [List.flatten_append, List.flatten_cons, Srt.app] at hs
        have zb : z ∈ b := by obtain ⟨ys, rfl⟩ := List.getLast?_eq_some_iff.mp eb; simp
        have yc : y ∈ l₂.flatten := List.mem_flatten.mpr ⟨c, hc, by obtain ⟨ys, rfl⟩ := List.getLast?_eq_some_iff.mp ec; simp⟩
        exact down_key w q z y ((Srt.app.mp hs.2.1).2.2 z zb y yc) h
def spBA (C : Addr) : Sp := fun vs H Q _ => ∃ (w : Bool) (o bl k : Addr) (bas : List Addr) (B : List (List Row)) (q : List V), vs = [.ref o, .ref k] ∧ OrdAt C w H o bl bas B ∧ H k = some (.tup q) ∧ (∀ ρ, Alike (keyV w ρ) q) ∧ Srt (ltR w) B.flatten ∧ (∀ b ∈ B, b ≠ []) ∧
  ∀ (B₁ B₂ : List (List Row)) H', Same H H' → B = B₁ ++ B₂ → (∀ b ∈ B₁, lastLt w q b = true) → (∀ b ∈ B₂, lastLt w q b = false) → Q (.int B₁.length) H'
theorem scBA : FnScope ["self", "key", "low", "high", "middle"] ["self", "key"] (defScope sBA) := ⟨rfl, rfl, rfl, by decide +kernel, rfl, by decide +kernel, by decide +kernel⟩
theorem ok_ba {f fK C : Addr} {fd fdK : FuncData} (F : Fun K "blocks_ahead" "Order.blocks_ahead" sBA f fd) (T : Txt K mg C) (gK : Gf K mg "key_of" fK fdK ["word", "row"]) (GK : FnOk P w K mg base CX0 2 fK fdK ["word", "row"] spKey) :
    FnOk P w K mg base CX0 3 f fd ["self", "key"] (spBA C) := by
  refine F.ok scBA (fun vs H Q E h => ?_) (fun cdv A outer s H vs Q E hr h => ?_)
  · obtain ⟨w, o, bl, k, bas, B, q, rfl, _⟩ := h
    rfl
  · obtain ⟨w, o, bl, k, bas, B, q, rfl, O, hk, hal, hs, hne, fin⟩ := h
    obtain ⟨⟨dx, ho⟩, hbl, hbs, hnd⟩ := id O
    refine ⟨_, pss_cons (ps_set (i := 2) scBA.nd rfl (Or.inl rfl) pe_int)
      (pss_cons (ps_set (i := 3) scBA.nd rfl (Or.inl rfl) (pe_callB call_len_seq (by rfl) T.len PySem.boot_len (pa_cons (pe_fld (pv 0) rfl) pa_nil)))
      (pss_cons (ps_while PassesOwn.never (pt_cmpR op_lt (pv 2) (pv 3) (nomark _))
        (pss_cons (ps_set (i := 4) scBA.nd rfl (Or.inl rfl) (pe_op op_fdiv (pe_op op_add (pv 2) (pv 3)) pe_int))
        (pss_one (ps_if (pt_cmpR (op_ltTV hr.units0) (pe_call GK hr rfl gK.mg gK.kp gK.b .nil pass0 (pa_cons (pe_fld (pv 0) rfl) (pa_cons (pe_ix ix_list (pe_ix ix_list (pe_fld (pv 0) rfl) (pv 4) (fun _ _ => rfl)) (pe_un un_neg pe_int) (fun _ _ => rfl)) pa_nil))) (pv 1) (nomark _))
          (pss_one (ps_set (i := 2) scBA.nd rfl (Or.inl rfl) (pe_op op_add (pv 4) pe_int)))
          (pss_one (ps_set (i := 3) scBA.nd rfl (Or.inl rfl) (pv 4)))))))
      (pss_one (ps_ret (pv 2))))), ?_⟩
    have hlen : bas.length = B.length := Paired.length hbs
    refine ⟨_, rfl, o, C, dx, _, _, rfl, ho, T.cl, T.nB, oflds_blocks _ _, bl, _, rfl, .inl (SqL.of hbl), ?_⟩
    refine ⟨fun m σ H1 => ∃ (lo hi : Nat) (v : Option V), σ = [some (.ref o), some (.ref k), some (.int lo), some (.int hi), v] ∧ Same H H1 ∧ lo ≤ hi ∧ hi ≤ B.length ∧ m = hi - lo ∧ (∀ i b, i < lo → B[i]? = some b → lastLt w q b = true) ∧ (∀ i b, hi ≤ i → B[i]? = some b → lastLt w q b = false),
      ⟨_, 0, B.length, none, by simp [L2.start, hlen], Same.refl _, Nat.zero_le _, Nat.le_refl _, rfl, fun _ _ h => by omega, fun i b h1 h2 => ?_⟩, ?_⟩
    · rw [List.getElem?_eq_none_iff.mpr h1] at h2; cases h2
    rintro m σ H1 ⟨lo, hi, v, rfl, s1, h1, h2, rfl, h3, h4⟩
    refine ⟨_, rfl, _, rfl, _, _, rfl, rfl, _, rfl, ?_⟩
    refine ite2 (fun c => ?_) (fun c => ?_)
    · have hlt : lo < hi := by have := of_decide_eq_true c; omega
      refine ⟨fun σ' H' => ∃ (lo' hi' : Nat) (v : Option V), σ' = [some (.ref o), some (.ref k), some (.int lo'), some (.int hi'), v] ∧ Same H H' ∧ lo' ≤ hi' ∧ hi' ≤ B.length ∧ hi' - lo' < hi - lo ∧ (∀ i b, i < lo' → B[i]? = some b → lastLt w q b = true) ∧ (∀ i b, hi' ≤ i → B[i]? = some b → lastLt w q b = false), ?_, ?_⟩
      · rintro σ' H' ⟨lo', hi', v', e1, e2, e3, e4, e5, e6, e7⟩
        exact ⟨hi' - lo', e5, lo', hi', v', e1, e2, e3, e4, rfl, e6, e7⟩
      have hm1 : (lo + hi) / 2 < B.length := by omega
      obtain ⟨b, hb⟩ : ∃ b, B[(lo + hi) / 2]? = some b := ⟨_, List.getElem?_eq_getElem hm1⟩
      obtain ⟨a, ha, as, hla, hRa⟩ := paired_get hbs hb
      have hbn := hne b (List.mem_of_getElem? hb)
      obtain ⟨ys, z, rfl⟩ : ∃ ys z, b = ys ++ [z] := ⟨b.dropLast, b.getLast hbn, (List.dropLast_concat_getLast hbn).symm⟩
      obtain ⟨as', az, rfl, hza⟩ : ∃ as' az, as = as' ++ [az] ∧ RowAt H az z := by
        have hl := hRa.len
        rw [List.length_append, List.length_singleton] at hl
        have hn : as ≠ [] := by intro e; subst e; simp at hl
        refine ⟨as.dropLast, as.getLast hn, (List.dropLast_concat_getLast hn).symm, ?_⟩
        obtain ⟨az, h1, h2⟩ := hRa.get (i := ys.length) (ρ := z) (by simp)
        have : as.getLast hn = az := by
          rw [List.getLast_eq_getElem]
          have : as[as.length - 1]? = some az := by rw [hl, Nat.add_sub_cancel]; exact h1
          rw [List.getElem?_eq_getElem (by omega)] at this
          exact Option.some.inj this
        rw [this]; exact h2
      have hmid : ((lo : Int) + (hi : Int)) / 2 = (((lo + hi) / 2 : Nat) : Int) := by omega
      refine ⟨_, rfl, _, rfl, _, _, rfl, rfl, _, _, rfl, rfl, ⟨by decide, by decide⟩, ?_⟩
      refine ⟨_, rfl, o, C, dx, _, _, rfl, s1 _ _ ho, T.cl, T.nW, oflds_word _ _, _, rfl, o, C, dx, _, _, rfl, s1 _ _ ho, T.cl, T.nB, oflds_blocks _ _, _, rfl, bl, _, _, _, rfl, rfl, SqL.of (s1 _ _ hbl), (by rw [hmid]; exact atI_nat (by rw [List.getElem?_map, ha]; rfl)), _, rfl, a, _, _, _, rfl, rfl, SqL.of (s1 _ _ hla), (by rw [List.map_append]; exact atI_last _ _), w, az, z, rfl, s1 _ _ hza, fun k' hk' => ?_⟩
      refine ⟨_, rfl, k', k, _, _, rfl, rfl, SqT.of upd_same, SqT.of ((Same.upd_new hk') _ _ (s1 _ _ hk)), hal z, _, rfl, ?_⟩
      have hlz : lastLt w q (ys ++ [z]) = lexV (keyV w z) q := by unfold lastLt; rw [List.getLast?_concat]
      refine ite2 (fun c2 => ?_) (fun c2 => ?_)
      · have e : ((lo : Int) + hi) / 2 + 1 = (((lo + hi) / 2 + 1 : Nat) : Int) := by omega
        refine ⟨_, rfl, _, _, rfl, rfl, (lo + hi) / 2 + 1, hi, _, (by rw [← e]; rfl), s1.trans (Same.upd_new hk'), by omega, h2, by omega, fun i c hi' hc => ?_, h4⟩
        exact lastLt_mono hs hne hc hb (by omega) (by rw [hlz]; exact c2)
      · refine ⟨_, rfl, lo, (lo + hi) / 2, _, (by rw [← hmid]; rfl), s1.trans (Same.upd_new hk'), by omega, by omega, by omega, h3, fun i c hi' hc => ?_⟩
        cases q' : lastLt w q c with
        | false => rfl
        | true =>
          have := lastLt_mono hs hne hb hc hi' q'
          rw [hlz] at this
          exact absurd this c2
    · have hlt : lo = hi := by have : ¬ (lo : Int) < hi := fun z => c (decide_eq_true z); omega
      subst hlt
      refine ⟨_, rfl, ?_⟩
      have hz : B = B.take lo ++ B.drop lo := (List.take_append_drop lo B).symm
      have := fin (B.take lo) (B.drop lo) H1 s1 hz (fun b hb => ?_) (fun b hb => ?_)
      · rw [List.length_take, Nat.min_eq_left h2] at this
        exact this
      · obtain ⟨i, hi, e⟩ := List.mem_take_iff_getElem.mp hb
        exact h3 i b (by omega) (by rw [← e]; exact List.getElem?_eq_getElem (by omega))
      · obtain ⟨i, hi, e⟩ := List.mem_drop_iff_getElem.mp hb
        exact h4 (i + lo) b (by omega) (by rw [← e, Nat.add_comm]; exact List.getElem?_eq_getElem (by omega))
end
end K1

set_option linter.all false
set_option maxRecDepth 100000
set_option maxHeartbeats 4000000
namespace K1
open PySem L2 TO
/-! ### heaps written -/
def NoTup (H : Hp) (a : Addr) : Prop := ∀ xs, H a ≠ some (.tup xs)
theorem NoTup.none {H : Hp} {a : Addr} (h : H a = none) : NoTup H a := fun xs e => by rw [h] at e; cases e
theorem NoTup.lst {H : Hp} {a : Addr} {ys : List V} (h : H a = some (.lst ys)) : NoTup H a := fun xs e => by rw [h] at e; cases e
theorem NoTup.keep {H : Hp} {a : Addr} {o : HO} (h : NoTup H a) : ∀ b xs, H b = some (.tup xs) → (upd H a o) b = some (.tup xs) := fun b xs e => by
  have hb : b ≠ a := fun q => h xs (by rw [← q]; exact e)
  rw [upd_ne hb]; exact e
theorem LstAt.upd {H : Hp} {a l : Addr} {o : HO} {ρs : List Row} (h : LstAt H l ρs) (hl : l ≠ a) (ha : NoTup H a) : LstAt (upd H a o) l ρs := h.same (upd_ne hl) ha.keep
theorem lsts_upd {H : Hp} {a : Addr} {o : HO} (ha : NoTup H a) : ∀ {bas : List Addr} {B : List (List Row)}, Paired (LstAt H) bas B → (∀ b ∈ bas, b ≠ a) → Paired (LstAt (upd H a o)) bas B
  | _, _, .nil, _ => .nil
  | _, _, .cons h t, hn => .cons (LstAt.upd h (hn _ (List.mem_cons_self ..)) ha) (lsts_upd ha t fun b hb => hn b (List.mem_cons_of_mem _ hb))
theorem lsts_in {H : Hp} : ∀ {bas : List Addr} {B : List (List Row)}, Paired (LstAt H) bas B → ∀ b ∈ bas, ∃ xs, H b = some (.lst xs)
  | _, _, .cons h t, b, hb => by
    rcases List.mem_cons.mp hb with e | e
    · subst e; obtain ⟨as, q, _⟩ := h; exact ⟨_, q⟩
    · exact lsts_in t b e
theorem lsts_free {H : Hp} {bas : List Addr} {B : List (List Row)} (h : Paired (LstAt H) bas B) {p : Addr} (hp : H p = none) : ∀ b ∈ bas, b ≠ p := fun b hb e => by
  obtain ⟨xs, q⟩ := lsts_in h b hb
  rw [e, hp] at q; cases q
theorem paired_split {α β : Type} {F : α → β → Prop} : ∀ {B₁ : List β} {l : List α} {b : β} {B₂ : List β}, Paired F l (B₁ ++ b :: B₂) → ∃ l₁ a l₂, l = l₁ ++ a :: l₂ ∧ Paired F l₁ B₁ ∧ F a b ∧ Paired F l₂ B₂
  | [], _, _, _, .cons h t => ⟨[], _, _, rfl, .nil, h, t⟩
  | c :: B₁, _, _, _, .cons h t => by
    obtain ⟨l₁, a, l₂, rfl, h1, h2, h3⟩ := paired_split t
    exact ⟨_ :: l₁, a, l₂, rfl, .cons h h1, h2, h3⟩
theorem paired_app {α β : Type} {F : α → β → Prop} : ∀ {l₁ l₂ : List α} {B₁ B₂ : List β}, Paired F l₁ B₁ → Paired F l₂ B₂ → Paired F (l₁ ++ l₂) (B₁ ++ B₂)
  | _, _, _, _, .nil, h => h
  | _, _, _, _, .cons a t, h => .cons a (paired_app t h)
theorem cut_take {xs : List V} {h : Nat} (hh : h ≤ xs.length) : cutV xs none (some (h : Int)) = xs.take h := by
  unfold cutV
  rw [HT.sIx_none, HT.sIx_nat, Nat.min_eq_left hh]
  simp
theorem cut_drop {xs : List V} {h : Nat} (hh : h ≤ xs.length) : cutV xs (some (h : Int)) none = xs.drop h := by
  unfold cutV
  rw [HT.sIx_none, HT.sIx_nat, Nat.min_eq_left hh]
  exact List.take_of_length_le (by simp)
theorem ixN_nat {n j : Nat} (h : j < n) : ixN n (j : Int) = some j := by
  unfold ixN
  rw [if_pos (by omega), if_pos (by omega)]
  simp
theorem take_mid {α : Type} {l₁ l₂ : List α} {a : α} : (l₁ ++ a :: l₂).take (l₁.length + 1) = l₁ ++ [a] := by
  rw [List.take_append, List.take_of_length_le (by omega), Nat.add_sub_cancel_left]; simp
theorem drop_mid {α : Type} {l₁ l₂ : List α} {a : α} : (l₁ ++ a :: l₂).drop (l₁.length + 1) = l₂ := by
  rw [List.drop_append, List.drop_of_length_le (by omega), Nat.add_sub_cancel_left]; simp
theorem nd_parts {bl a : Addr} {l₁ l₂ : List Addr} (h : (bl :: (l₁ ++ a :: l₂)).Nodup) : bl ∉ l₁ ∧ bl ≠ a ∧ bl ∉ l₂ ∧ a ∉ l₁ ∧ a ∉ l₂ ∧ (bl :: (l₁ ++ l₂)).Nodup := by
  rw [List.nodup_cons, List.nodup_append, List.nodup_cons] at h
  obtain ⟨h1, h2, ⟨h3, h4⟩, h5⟩ := h
  simp only [List.mem_append, List.mem_cons, not_or] at h1
  refine ⟨h1.1, h1.2.1, h1.2.2, fun z => h5 a z a (List.mem_cons_self ..) rfl, h3, ?_⟩
  rw [List.nodup_cons, List.nodup_append]
  refine ⟨?_, h2, h4, fun x hx y hy => h5 x hx y (List.mem_cons_of_mem _ hy)⟩
  simp only [List.mem_append, not_or]
  exact ⟨h1.1, h1.2.2⟩
theorem nd_ins {bl a : Addr} {l₁ l₂ : List Addr} (h : (bl :: (l₁ ++ l₂)).Nodup) (h1 : a ≠ bl) (h2 : a ∉ l₁) (h3 : a ∉ l₂) : (bl :: (l₁ ++ a :: l₂)).Nodup := by
  rw [List.nodup_cons, List.nodup_append] at h
  rw [List.nodup_cons, List.nodup_append, List.nodup_cons]
  simp only [List.mem_append, List.mem_cons, not_or] at h ⊢
  refine ⟨⟨h.1.1, h1.symm, h.1.2⟩, h.2.1, ⟨h3, h.2.2.1⟩, fun x hx y hy => ?_⟩
  rcases hy with e | e
  · subst e; intro e; subst e; exact h2 hx
  · exact h.2.2.2 x hx y e
section
variable {P : Program} {w : World} {K : PySem.W.Frag} {mg : Str → Option Value} {base : Heap}
/-! ### split_block -/
def spSplit (C : Addr) : Sp := fun vs H Q _ => ∃ (w : Bool) (o bl : Addr) (bas : List Addr) (B₁ : List (List Row)) (b : List Row) (B₂ : List (List Row)), vs = [.ref o, .int B₁.length] ∧ OrdAt C w H o bl bas (B₁ ++ b :: B₂) ∧ bas.length < 100000 ∧
  ∀ (bas' : List Addr) (H' : Hp), OrdAt C w H' o bl bas' (B₁ ++ b.take (b.length / 2) :: b.drop (b.length / 2) :: B₂) → Stp H H' (bl :: bas) (bl :: bas') → Q .non H'
theorem scSplit : FnScope ["self", "place", "block", "half"] ["self", "place"] (defScope sSplit) := ⟨rfl, rfl, rfl, by decide +kernel, rfl, by decide +kernel, by decide +kernel⟩
theorem ok_split {f C : Addr} {fd : FuncData} (F : Fun K "split_block" "Order.split_block" sSplit f fd) (T : Txt K mg C) : FnOk P w K mg base CX0 1 f fd ["self", "place"] (spSplit C) := by
  refine F.ok scSplit (fun vs H Q E h => ?_) (fun cdv A outer s H vs Q E hr h => ?_)
  · obtain ⟨w, o, bl, bas, B₁, b, B₂, rfl, _⟩ := h
    rfl
  · obtain ⟨w, o, bl, bas, B₁, b, B₂, rfl, O, hsz, fin⟩ := h
    obtain ⟨⟨dx, ho⟩, hbl, hbs, hnd⟩ := id O
    obtain ⟨l₁, a, l₂, rfl, hp1, ⟨as, ha, hR⟩, hp2⟩ := paired_split hbs
    have hl1 : l₁.length = B₁.length := Paired.length hp1
    have hla := hR.len
    obtain ⟨n1, n2, n3, n4, n5, n6⟩ := nd_parts hnd
    refine ⟨_, pss_cons (ps_set (i := 2) scSplit.nd rfl (Or.inl rfl) (pe_ix ix_list (pe_fld (pv 0) rfl) (pv 1) (fun _ _ => rfl)))
      (pss_cons (ps_set (i := 3) scSplit.nd rfl (Or.inl rfl) (pe_op op_fdiv (pe_callB call_len_seq (by rfl) T.len PySem.boot_len (pa_cons (pv 2) pa_nil)) pe_int))
      (pss_cons (ps_asg (pe_slice sl_list (pv 2) po_none (po_some (pv 3))) (pg_sub (pe_fld (pv 0) rfl) (pv 1) set_list))
      (pss_one (ps_expr (pe_bm PySem.F.plainAttrs_list PySem.F.slot_list_insert PySem.F.type_list_insert mt_insert (pe_fld (pv 0) rfl) (pa_cons (pe_op op_add (pv 1) pe_int) (pa_cons (pe_slice sl_list (pv 2) (po_some (pv 3)) po_none) pa_nil))))))), ?_⟩
    refine ⟨_, rfl, o, C, dx, _, _, rfl, ho, T.cl, T.nB, oflds_blocks _ _, _, rfl, bl, _, _, _, rfl, rfl, SqL.of hbl, atI_nat (j := B₁.length) (by rw [List.getElem?_map, ← hl1, get_mid]; rfl), ?_⟩
    refine ⟨_, rfl, a, _, rfl, .inl (SqL.of ha), _, _, rfl, rfl, ⟨by decide, by decide⟩, ?_⟩
    have eh : (((as.map V.ref).length : Int)) / 2 = ((b.length / 2 : Nat) : Int) := by rw [List.length_map, hla]; omega
    have hh : b.length / 2 ≤ (as.map V.ref).length := by rw [List.length_map, hla]; omega
    refine ⟨_, rfl, _, rfl, _, rfl, a, _, rfl, SqL.of ha, fun p1 f1 => ?_⟩
    have ho1 : o ≠ p1 := ne_of_none ho f1
    have hb1 : bl ≠ p1 := ne_of_none hbl f1
    have ha1 : a ≠ p1 := ne_of_none ha f1
    have hob : o ≠ bl := ne_of ho hbl (by intro z; cases z)
    have hoa : o ≠ a := ne_of ho ha (by intro z; cases z)
    refine ⟨_, rfl, o, C, dx, _, _, rfl, (by rw [upd_ne ho1]; exact ho), T.cl, T.nB, oflds_blocks _ _, _, rfl, bl, _, _, B₁.length, rfl, rfl, (by rw [upd_ne hb1]; exact hbl), (by rw [List.length_map]; exact ixN_nat (by simp [hl1])), ?_⟩
    rw [eh, cut_take hh]
    have eset : ((l₁ ++ a :: l₂).map V.ref).set B₁.length (.ref p1) = (l₁ ++ p1 :: l₂).map V.ref := by
      rw [← hl1, List.map_append, List.map_cons, List.map_append, List.map_cons]
      have := set_mid (l₁ := l₁.map V.ref) (l₂ := l₂.map V.ref) (a := V.ref a) (b := V.ref p1)
      rw [List.length_map] at this
      exact this
    rw [eset]
    refine ⟨_, rfl, o, C, dx, _, _, rfl, (by rw [upd_ne hob, upd_ne ho1]; exact ho), T.cl, T.nB, oflds_blocks _ _, .inl ⟨rfl, _, SqL.of upd_same⟩, _, rfl, _, _, rfl, rfl, _, rfl, _, rfl, _, rfl, a, _, rfl, SqL.of (by rw [upd_ne n2.symm, upd_ne ha1]; exact ha), fun p2 f2 => ?_⟩
    rw [eh, cut_drop hh]
    have hb2 : bl ≠ p2 := ne_of_none (upd_same (H := upd H p1 (.lst ((as.map V.ref).take (b.length / 2)))) (o := .lst ((l₁ ++ p1 :: l₂).map V.ref))) f2
    have f2' : (upd H p1 (.lst ((as.map V.ref).take (b.length / 2)))) p2 = none := by rw [upd_ne hb2.symm] at f2; exact f2
    have h12 : p1 ≠ p2 := ne_of_none upd_same f2'
    have f2'' : H p2 = none := by rw [upd_ne h12.symm] at f2'; exact f2'
    have ho2 : o ≠ p2 := ne_of_none ho f2''
    have el : ((l₁ ++ p1 :: l₂).map V.ref).take ((B₁.length : Int) + 1).toNat ++ V.ref p2 :: ((l₁ ++ p1 :: l₂).map V.ref).drop ((B₁.length : Int) + 1).toNat = (l₁ ++ p1 :: p2 :: l₂).map V.ref := by
      have e1 : ((B₁.length : Int) + 1).toNat = (l₁.map V.ref).length + 1 := by rw [List.length_map]; omega
      rw [e1]
      simp only [List.map_append, List.map_cons]
      rw [take_mid, drop_mid, List.append_assoc]
      rfl
    refine ⟨bl, _, _, _, rfl, rfl, (by rw [upd_ne hb2]; exact upd_same), ?_, by omega, ?_, ?_⟩
    · refine Nat.lt_of_lt_of_le (m := 100001) ?_ (by decide)
      simp only [List.length_map, List.length_append, List.length_cons] at hsz ⊢
      omega
    · simp only [List.length_map, List.length_append, List.length_cons]
      omega
    show Q .non _
    rw [el]
    have hfree1 : ∀ x ∈ l₁, x ≠ p1 ∧ x ≠ p2 ∧ x ≠ bl := fun x hx => ⟨lsts_free hp1 f1 x hx, lsts_free hp1 f2'' x hx, fun e => n1 (e ▸ hx)⟩
    have hfree2 : ∀ x ∈ l₂, x ≠ p1 ∧ x ≠ p2 ∧ x ≠ bl := fun x hx => ⟨lsts_free hp2 f1 x hx, lsts_free hp2 f2'' x hx, fun e => n3 (e ▸ hx)⟩
    have t1 : NoTup H p1 := NoTup.none f1
    have t2 : NoTup (upd H p1 (.lst ((as.map V.ref).take (b.length / 2)))) bl := NoTup.lst (ys := (l₁ ++ a :: l₂).map V.ref) (by rw [upd_ne hb1]; exact hbl)
    have t3 : NoTup (upd (upd H p1 (.lst ((as.map V.ref).take (b.length / 2)))) bl (.lst ((l₁ ++ p1 :: l₂).map V.ref))) p2 := NoTup.none f2
    have t4 : NoTup (upd (upd (upd H p1 (.lst ((as.map V.ref).take (b.length / 2)))) bl (.lst ((l₁ ++ p1 :: l₂).map V.ref))) p2 (.lst ((as.map V.ref).drop (b.length / 2)))) bl := NoTup.lst (ys := (l₁ ++ p1 :: l₂).map V.ref) (by rw [upd_ne hb2]; exact upd_same)
    have tups : ∀ c xs, H c = some (.tup xs) → (upd (upd (upd (upd H p1 (.lst ((as.map V.ref).take (b.length / 2)))) bl (.lst ((l₁ ++ p1 :: l₂).map V.ref))) p2 (.lst ((as.map V.ref).drop (b.length / 2)))) bl (.lst ((l₁ ++ p1 :: p2 :: l₂).map V.ref))) c = some (.tup xs) :=
      fun c xs h => t4.keep _ _ (t3.keep _ _ (t2.keep _ _ (t1.keep _ _ h)))
    refine fin (l₁ ++ p1 :: p2 :: l₂) _ ⟨⟨dx, ?_⟩, upd_same, ?_, ?_⟩ ⟨fun c u hc hn => ?_, fun c hc => ?_⟩
    · rw [upd_ne hob, upd_ne ho2, upd_ne hob, upd_ne ho1]; exact ho
    · refine paired_app ?_ (.cons ⟨as.take (b.length / 2), ?_, (hR.take _).same tups⟩ (.cons ⟨as.drop (b.length / 2), ?_, (hR.drop _).same tups⟩ ?_))
      · exact lsts_upd t4 (lsts_upd t3 (lsts_upd t2 (lsts_upd t1 hp1 fun x hx => (hfree1 x hx).1) fun x hx => (hfree1 x hx).2.2) fun x hx => (hfree1 x hx).2.1) fun x hx => (hfree1 x hx).2.2
      · rw [upd_ne hb1.symm, upd_ne h12, upd_ne hb1.symm, upd_same, List.map_take]
      · rw [upd_ne hb2.symm, upd_same, List.map_drop]
      · exact lsts_upd t4 (lsts_upd t3 (lsts_upd t2 (lsts_upd t1 hp2 fun x hx => (hfree2 x hx).1) fun x hx => (hfree2 x hx).2.2) fun x hx => (hfree2 x hx).2.1) fun x hx => (hfree2 x hx).2.2
    · refine nd_ins (nd_ins n6 hb2.symm (fun z => (hfree1 _ z).2.1 rfl) fun z => (hfree2 _ z).2.1 rfl) hb1.symm (fun z => (hfree1 _ z).1 rfl) fun z => ?_
      rcases List.mem_cons.mp z with z | z
      · exact h12 z
      · exact (hfree2 _ z).1 rfl
    · have c1 : c ≠ bl := fun e => hn (by rw [e]; exact List.mem_cons_self ..)
      rw [upd_ne c1, upd_ne (ne_of_none hc f2''), upd_ne c1, upd_ne (ne_of_none hc f1)]
      exact hc
    · simp only [List.mem_cons, List.mem_append] at hc ⊢
      rcases hc with e | e | e | e | e
      · exact .inl (.inl e)
      · exact .inl (.inr (.inl e))
      · exact .inr (by rw [e]; exact f1)
      · exact .inr (by rw [e]; exact f2'')
      · exact .inl (.inr (.inr (.inr e)))
end
end K1

set_option linter.all false
set_option maxRecDepth 100000
set_option maxHeartbeats 4000000
namespace K1
open PySem L2 TO
structure Mf (K : PySem.W.Frag) (C : Addr) (m : Str) (f : Addr) (fd : FuncData) (ps : List Str) : Prop where
  m : Meth K C m f
  b : Binds K fd ps []
structure GoodB (w : Bool) (B : List (List Row)) : Prop where
  adj : Adj 8 (B.map List.length)
  srt : Srt (ltR w) B.flatten
theorem adj_all : ∀ {l : List Nat} {p : Nat}, Adj p l → ∀ n ∈ l, 1 ≤ n ∧ n ≤ 8
  | m :: r, p, ⟨a, b, c, d⟩, n, hn => by
    rcases List.mem_cons.mp hn with e | e
    · subst e; exact ⟨a, b⟩
    · exact adj_all d n e
theorem GoodB.ne {w : Bool} {B : List (List Row)} (g : GoodB w B) : ∀ b ∈ B, b ≠ [] := fun b hb e => by
  have := adj_all g.adj b.length (List.mem_map.mpr ⟨b, hb, rfl⟩)
  rw [e] at this
  simp at this
theorem GoodB.len {w : Bool} {B : List (List Row)} (g : GoodB w B) : B.length ≤ B.flatten.length := by
  have h := g.ne
  clear g
  induction B with
  | nil => simp
  | cons b r ih =>
    have := ih fun c hc => h c (List.mem_cons_of_mem _ hc)
    have h1 : b ≠ [] := h b (List.mem_cons_self ..)
    have h2 : 0 < b.length := List.length_pos_iff.mpr h1
    simp only [List.length_cons, List.flatten_cons, List.length_append]
    omega
theorem Stp.trans {H H1 H2 : Hp} {f f1 f2 : List Addr} (a : Stp H H1 f f1) (b : Stp H1 H2 f1 f2) : Stp H H2 f f2 where
  keep := fun c u hc hn => b.keep c u (a.keep c u hc hn) fun z => by
    rcases a.new c z with q | q
    · exact hn q
    · rw [q] at hc; cases hc
  new := fun c hc => by
    rcases b.new c hc with q | q
    · exact a.new c q
    · cases e : H c with
      | none => exact .inr rfl
      | some u =>
        by_cases hn : c ∈ f
        · exact .inl hn
        · rw [a.keep c u e hn] at q; cases q
theorem lastLt_ex {w : Bool} {q : List V} {b : List Row} (h : lastLt w q b = true) : ∃ x, b.getLast? = some x ∧ lexV (keyV w x) q = true := by
  unfold lastLt at h
  cases e : b.getLast? with
  | none => rw [e] at h; cases h
  | some x => rw [e] at h; exact ⟨x, rfl, h⟩
theorem lastLt_no {w : Bool} {q : List V} {b : List Row} (h : lastLt w q b = false) (hb : b ≠ []) : ∃ x, b.getLast? = some x ∧ lexV (keyV w x) q = false := by
  unfold lastLt at h
  cases e : b.getLast? with
  | none => rw [List.getLast?_eq_none_iff] at e; exact absurd e hb
  | some x => rw [e] at h; exact ⟨x, rfl, h⟩
/-- the blocks around the place of a key: all ahead of it, none behind it -/
theorem place_of {w : Bool} {q : List V} {B₁ B₂ : List (List Row)} {b : List Row} (hs : Srt (ltR w) (B₁ ++ b :: B₂).flatten) (h1 : ∀ c ∈ B₁, lastLt w q c = true) (h2 : lastLt w q b = false) (hb : b ≠ []) :
    (∀ y ∈ B₁.flatten, lexV (keyV w y) q = true) ∧ ∀ y ∈ B₂.flatten, lexV (keyV w y) q = false := by
  rw [List.flatten_append, List.flatten_cons, Srt.app] at hs
  refine ⟨ahead_all (P := fun y => lexV (keyV w y) q) (down_key w q) hs.1 fun c hc => lastLt_ex (h1 c hc), ?_⟩
  obtain ⟨z, e, pz⟩ := lastLt_no h2 hb
  exact behind_none (P := fun y => lexV (keyV w y) q) (down_key w q) hs.2.1 e pz
theorem take_place {w : Bool} {ρ : Row} {B B₁ B₂ : List (List Row)} (hB : B = B₁ ++ B₂) (hn : B ≠ []) (hs : Srt (ltR w) B.flatten) (hb : ∀ b ∈ B, b ≠ []) (h1 : ∀ c ∈ B₁, lastLt w (keyV w ρ) c = true) (h2 : ∀ c ∈ B₂, lastLt w (keyV w ρ) c = false) :
    ∃ L b R, B = L ++ b :: R ∧ (if ((B.length : Int) - 1) < (B₁.length : Int) then ((B.length : Int) - 1) else (B₁.length : Int)) = (L.length : Int) ∧ (∀ y ∈ L.flatten, ltR w y ρ = true) ∧ ∀ y ∈ R.flatten, ltR w y ρ = false := by
  cases B₂ with
  | nil =>
    rw [List.append_nil] at hB
    subst hB
    refine ⟨B.dropLast, B.getLast hn, [], (List.dropLast_concat_getLast hn).symm, ?_, fun y hy => ?_, fun y hy => by cases hy⟩
    · have : 0 < B.length := List.length_pos_iff.mpr hn
      rw [if_pos (by omega), List.length_dropLast]
      omega
    · refine ahead_all (lt := ltR w) (P := fun y => ltR w y ρ) (down_key w (keyV w ρ)) hs (fun c hc => lastLt_ex (h1 c hc)) y ?_
      have e := List.dropLast_concat_getLast hn
      rw [← e, List.flatten_append]
      exact List.mem_append_left _ hy
  | cons b R =>
    subst hB
    have := place_of hs h1 (h2 b (List.mem_cons_self ..)) (hb b (by simp))
    refine ⟨B₁, b, R, rfl, ?_, this.1, this.2⟩
    rw [if_neg (by simp only [List.length_append, List.length_cons]; omega)]
theorem cut_at {α : Type} {t d l : List α} (e : t ++ d = l) : l.take t.length = t ∧ l.drop t.length = d := by
  subst e
  exact ⟨by simp, by simp⟩
theorem tw_take {α : Type} {P : α → Bool} {l : List α} : l.take (l.takeWhile P).length = l.takeWhile P ∧ l.drop (l.takeWhile P).length = l.dropWhile P := cut_at (List.takeWhile_append_dropWhile)
theorem tw_le {α : Type} {P : α → Bool} {l : List α} : (l.takeWhile P).length ≤ l.length := by
  have := congrArg List.length (List.takeWhile_append_dropWhile (p := P) (l := l))
  rw [List.length_append] at this
  omega
section
variable {P : Program} {w : World} {K : PySem.W.Frag} {mg : Str → Option Value} {base : Heap}
def spTake (C : Addr) : Sp := fun vs H Q _ => ∃ (w : Bool) (o bl a : Addr) (bas : List Addr) (B : List (List Row)) (ρ : Row), vs = [.ref o, .ref a] ∧ OrdAt C w H o bl bas B ∧ RowAt H a ρ ∧ GoodB w B ∧ (∀ x ∈ B.flatten, x.n ≠ ρ.n) ∧ B.flatten.length < 10000 ∧
  ∀ (bas' : List Addr) (B' : List (List Row)) (H' : Hp), OrdAt C w H' o bl bas' B' → GoodB w B' → B'.flatten.Perm (ρ :: B.flatten) → Stp H H' (bl :: bas) (bl :: bas') → Q .non H'
theorem scTake : FnScope ["self", "row", "key", "place", "block"] ["self", "row"] (defScope sTake) := ⟨rfl, rfl, rfl, by decide +kernel, rfl, by decide +kernel, by decide +kernel⟩
theorem ok_take {f fK fBA fRA fSp C : Addr} {fd fdK fdBA fdRA fdSp : FuncData} (F : Fun K "take_in" "Order.take_in" sTake f fd) (T : Txt K mg C) (gK : Gf K mg "key_of" fK fdK ["word", "row"]) (GK : FnOk P w K mg base CX0 2 fK fdK ["word", "row"] spKey)
    (mBA : Mf K C "blocks_ahead" fBA fdBA ["self", "key"]) (GBA : FnOk P w K mg base CX0 3 fBA fdBA ["self", "key"] (spBA C)) (mRA : Mf K C "rows_ahead" fRA fdRA ["self", "block", "key"]) (GRA : FnOk P w K mg base CX0 3 fRA fdRA ["self", "block", "key"] (spRA C))
    (mSp : Mf K C "split_block" fSp fdSp ["self", "place"]) (GSp : FnOk P w K mg base CX0 1 fSp fdSp ["self", "place"] (spSplit C)) :
    FnOk P w K mg base CX0 4 f fd ["self", "row"] (spTake C) := by
  refine F.ok scTake (fun vs H Q E h => ?_) (fun cdv A outer s H vs Q E hr h => ?_)
  · obtain ⟨w, o, bl, a, bas, B, ρ, rfl, _⟩ := h
    rfl
  · obtain ⟨w, o, bl, a, bas, B, ρ, rfl, O, ha, G, hnum, hsz, fin⟩ := h
    obtain ⟨⟨dx, ho⟩, hbl, hbs, hnd⟩ := id O
    have hr1 : Room 1 _ := hr.mono (by decide)
    have hr2 : Room 2 _ := hr.mono (by decide)
    obtain ⟨t8, h8⟩ := T.most
    refine ⟨_, pss_cons (ps_if (pt_cmpR op_eq (pe_callB call_len_seq (by rfl) T.len PySem.boot_len (pa_cons (pe_fld (pv 0) rfl) pa_nil)) pe_int (nomark _))
        (pss_cons (ps_expr (pe_bm PySem.F.plainAttrs_list PySem.F.slot_list_append PySem.F.type_list_append mt_append (pe_fld (pv 0) rfl) (pa_cons (pe_lst (pa_cons (pv 1) pa_nil)) pa_nil))) (pss_one ps_retN)) pss_nil)
      (pss_cons (ps_set (i := 2) scTake.nd rfl (Or.inl rfl) (pe_call GK hr2 rfl gK.mg gK.kp gK.b .nil pass0 (pa_cons (pe_fld (pv 0) rfl) (pa_cons (pv 1) pa_nil))))
      (pss_cons (ps_set (i := 3) scTake.nd rfl (Or.inl rfl) (pe_callB (call_min2 rfl) (by rfl) T.min PyProof.Rows.boot_min (pa_cons (pe_meth (pv 0) T.cl mBA.m GBA hr mBA.b .nil pass0 (pa_cons (pv 2) pa_nil)) (pa_cons (pe_op op_sub (pe_callB call_len_seq (by rfl) T.len PySem.boot_len (pa_cons (pe_fld (pv 0) rfl) pa_nil)) pe_int) pa_nil))))
      (pss_cons (ps_set (i := 4) scTake.nd rfl (Or.inl rfl) (pe_ix ix_list (pe_fld (pv 0) rfl) (pv 3) (fun _ _ => rfl)))
      (pss_cons (ps_expr (pe_bm PySem.F.plainAttrs_list PySem.F.slot_list_insert PySem.F.type_list_insert mt_insert (pv 4) (pa_cons (pe_meth (pv 0) T.cl mRA.m GRA hr mRA.b .nil pass0 (pa_cons (pv 4) (pa_cons (pv 2) pa_nil))) (pa_cons (pv 1) pa_nil))))
      (pss_one (ps_if (pt_cmpR op_gt (pe_callB call_len_seq (by rfl) T.len PySem.boot_len (pa_cons (pv 4) pa_nil)) (pe_gI h8) (nomark _)) (pss_one (ps_expr (pe_meth (pv 0) T.cl mSp.m GSp hr1 mSp.b .nil pass0 (pa_cons (pv 3) pa_nil)))) pss_nil)))))), ?_⟩
    refine ⟨_, rfl, o, C, dx, _, _, rfl, ho, T.cl, T.nB, oflds_blocks _ _, bl, _, rfl, .inl (SqL.of hbl), rfl, _, rfl, ?_⟩
    have hlen : bas.length = B.length := Paired.length hbs
    refine ite2 (fun c => ?_) (fun c => ?_)
    · -- no block yet
      have c' := of_decide_eq_true c
      have hb0 : bas = [] := by
        injection c' with c'
        rw [List.length_map] at c'
        exact List.eq_nil_of_length_eq_zero (by omega)
      subst hb0
      cases hbs
      refine ⟨_, rfl, o, C, dx, _, _, rfl, ho, T.cl, T.nB, oflds_blocks _ _, .inl ⟨rfl, _, SqL.of hbl⟩, _, rfl, by show 1 ≤ sizeLine; decide, fun l hl => ?_⟩
      have hbl1 : bl ≠ l := ne_of_none hbl hl
      have ho1 : o ≠ l := ne_of_none ho hl
      have hob : o ≠ bl := ne_of ho hbl (by intro z; cases z)
      refine ⟨bl, _, _, rfl, rfl, (by rw [upd_ne hbl1]; exact hbl), by show 0 < sizeLine; decide, ?_⟩
      have t1 : NoTup H l := NoTup.none hl
      have t2 : NoTup (upd H l (.lst [.ref a])) bl := NoTup.lst (ys := []) (by rw [upd_ne hbl1]; exact hbl)
      refine fin [l] [[ρ]] _ ⟨⟨dx, by rw [upd_ne hob, upd_ne ho1]; exact ho⟩, upd_same, .cons ⟨[a], by rw [upd_ne hbl1.symm, upd_same]; rfl, .cons (t2.keep _ _ (t1.keep _ _ ha)) .nil⟩ .nil, by simp [hbl1]⟩ ⟨by simp [Adj], by simp⟩ (by simp) ⟨fun b u hb hn => ?_, fun b hb => ?_⟩
      · have n1 : b ≠ bl := fun e => hn (by simp [e])
        rw [upd_ne n1, upd_ne (ne_of_none hb hl)]
        exact hb
      · simp at hb
        rcases hb with e | e
        · exact .inl (by simp [e])
        · exact .inr (by rw [e]; exact hl)
    · have hBn : B ≠ [] := fun e => c (by
        subst e
        have : bas = [] := List.eq_nil_of_length_eq_zero (by simpa using hlen)
        subst this
        exact decide_eq_true rfl)
      refine ⟨_, rfl, o, C, dx, _, _, rfl, ho, T.cl, T.nW, oflds_word _ _, _, rfl, w, a, ρ, rfl, ha, fun k hk => ?_⟩
      have s1 : Same H (upd H k (.tup (keyV w ρ))) := Same.upd_new hk
      refine ⟨_, rfl, o, dx, _, rfl, s1 _ _ ho, oflds_no _ _ (by decide +kernel) (by decide +kernel), _, rfl, w, o, bl, k, bas, B, keyV w ρ, rfl, O.same s1, upd_same, fun ρ' => key_alike w ρ' ρ, G.srt, G.ne, fun B₁ B₂ H2 s2 eB hB1 hB2 => ?_⟩
      have s12 : Same H H2 := s1.trans s2
      refine ⟨_, rfl, o, C, dx, _, _, rfl, s12 _ _ ho, T.cl, T.nB, oflds_blocks _ _, bl, _, rfl, .inl (SqL.of (s12 _ _ hbl)), _, _, rfl, rfl, _, _, rfl, ?_⟩
      obtain ⟨L, b, R, rfl, ep, hL, hRr⟩ := take_place eB hBn G.srt G.ne hB1 hB2
      obtain ⟨l₁, ab, l₂, rfl, hp1, hab0, hp2⟩ := paired_split hbs
      obtain ⟨as, hab, hRb⟩ := id hab0
      have hl1 : l₁.length = L.length := Paired.length hp1
      have ep' : (if ((((l₁ ++ ab :: l₂).map V.ref).length : Int) - 1) < (B₁.length : Int) then ((((l₁ ++ ab :: l₂).map V.ref).length : Int) - 1) else (B₁.length : Int)) = (L.length : Int) := by
        rw [List.length_map, hlen]; exact ep
      obtain ⟨n1, n2, n3, n4, n5, n6⟩ := nd_parts hnd
      refine ⟨_, rfl, o, C, dx, _, _, rfl, s12 _ _ ho, T.cl, T.nB, oflds_blocks _ _, _, rfl, bl, _, _, _, rfl, rfl, SqL.of (s12 _ _ hbl), (by
        show atI _ (if ((((l₁ ++ ab :: l₂).map V.ref).length : Int) - 1) < (B₁.length : Int) then ((((l₁ ++ ab :: l₂).map V.ref).length : Int) - 1) else (B₁.length : Int)) = _
        rw [ep']
        exact atI_nat (j := L.length) (v := V.ref ab) (by rw [List.getElem?_map, ← hl1, get_mid]; rfl)), ?_⟩
      refine ⟨_, rfl, .inl ⟨rfl, _, SqL.of (s12 _ _ hab)⟩, _, rfl, o, dx, _, rfl, s12 _ _ ho, oflds_no _ _ (by decide +kernel) (by decide +kernel), _, rfl, _, rfl, w, o, bl, dx, ab, k, b, keyV w ρ, rfl, s12 _ _ ho, hab0.sameS s12, s2 _ _ upd_same, fun ρ' => key_alike w ρ' ρ, fun H3 s3 => ?_⟩
      have s13 : Same H H3 := s12.trans s3
      have hlb := hRb.len
      have htw : (b.takeWhile fun x => lexV (keyV w x) (keyV w ρ)).length ≤ as.length := by rw [hlb]; exact tw_le
      have hbb : b ∈ L ++ b :: R := by simp
      have hb8 := adj_all G.adj b.length (List.mem_map.mpr ⟨b, hbb, rfl⟩)
      refine ⟨_, rfl, ab, _, _, _, rfl, rfl, s13 _ _ hab, ?_, by omega, by rw [List.length_map]; omega, ?_⟩
      · exact small1000 (by rw [List.length_map, hlb]; omega)
      rw [Int.toNat_natCast, ← List.map_take, ← List.map_drop, ← List.map_cons (f := V.ref), ← List.map_append]
      have hab3 := s13 _ _ hab
      have t4 : NoTup H3 ab := NoTup.lst hab3
      have hob : o ≠ bl := ne_of ho hbl (by intro z; cases z)
      have hoa : o ≠ ab := ne_of ho hab (by intro z; cases z)
      have hR4 : RowsAt (upd H3 ab (.lst ((as.take (b.takeWhile fun x => lexV (keyV w x) (keyV w ρ)).length ++ a :: as.drop (b.takeWhile fun x => lexV (keyV w x) (keyV w ρ)).length).map V.ref))) (as.take (b.takeWhile fun x => lexV (keyV w x) (keyV w ρ)).length ++ a :: as.drop (b.takeWhile fun x => lexV (keyV w x) (keyV w ρ)).length)
          ((b.takeWhile fun x => lexV (keyV w x) (keyV w ρ)) ++ ρ :: b.dropWhile fun x => lexV (keyV w x) (keyV w ρ)) := by
        have e := tw_take (P := fun x => lexV (keyV w x) (keyV w ρ)) (l := b)
        have z := RowsAt.app (hRb.take (b.takeWhile fun x => lexV (keyV w x) (keyV w ρ)).length) (.cons ha (hRb.drop (b.takeWhile fun x => lexV (keyV w x) (keyV w ρ)).length))
        rw [e.1, e.2] at z
        exact RowsAt.same (t4.keep) (RowsAt.same (fun b xs q => s13 _ _ q) z)
      generalize hH4 : upd H3 ab (.lst ((as.take (b.takeWhile fun x => lexV (keyV w x) (keyV w ρ)).length ++ a :: as.drop (b.takeWhile fun x => lexV (keyV w x) (keyV w ρ)).length).map V.ref)) = H4 at hR4 ⊢
      have e4 : H4 ab = some (.lst ((as.take (b.takeWhile fun x => lexV (keyV w x) (keyV w ρ)).length ++ a :: as.drop (b.takeWhile fun x => lexV (keyV w x) (keyV w ρ)).length).map V.ref)) := by rw [← hH4]; exact upd_same
      have k4 : ∀ c u, c ≠ ab → H3 c = some u → H4 c = some u := fun c u hc q => by rw [← hH4, upd_ne hc]; exact q
      have hfl := ins_blocks (P := fun x => lexV (keyV w x) (keyV w ρ)) (x := ρ) (b := b) hL hRr
      have hins : Srt (ltR w) (L ++ ((b.takeWhile fun x => lexV (keyV w x) (keyV w ρ)) ++ ρ :: b.dropWhile fun x => lexV (keyV w x) (keyV w ρ)) :: R).flatten := by
        rw [hfl]
        exact Srt.ins (fun a b c => ltR_trans w a b c) G.srt fun y hy => ltR_tri (hnum y hy)
      have hperm : ((L ++ ((b.takeWhile fun x => lexV (keyV w x) (keyV w ρ)) ++ ρ :: b.dropWhile fun x => lexV (keyV w x) (keyV w ρ)) :: R).flatten).Perm (ρ :: (L ++ b :: R).flatten) := by
        rw [hfl]
        exact ins_perm
      have hlb' : ((b.takeWhile fun x => lexV (keyV w x) (keyV w ρ)) ++ ρ :: b.dropWhile fun x => lexV (keyV w x) (keyV w ρ)).length = b.length + 1 := (ins_perm (P := fun x => lexV (keyV w x) (keyV w ρ)) (l := b) (x := ρ)).length_eq
      have hla4 := hR4.len
      generalize (b.takeWhile fun x => lexV (keyV w x) (keyV w ρ)) ++ ρ :: b.dropWhile (fun x => lexV (keyV w x) (keyV w ρ)) = b' at hR4 hins hperm hlb' hla4
      generalize as.take (b.takeWhile fun x => lexV (keyV w x) (keyV w ρ)).length ++ a :: as.drop (b.takeWhile fun x => lexV (keyV w x) (keyV w ρ)).length = as' at hR4 e4 hla4
      have O4 : OrdAt C w H4 o bl (l₁ ++ ab :: l₂) (L ++ b' :: R) := by
        refine ⟨⟨dx, k4 _ _ hoa (s13 _ _ ho)⟩, k4 _ _ n2 (s13 _ _ hbl), paired_app ?_ (.cons ⟨as', e4, hR4⟩ ?_), hnd⟩
        · rw [← hH4]
          exact lsts_upd t4 (Paired.mapP hp1 fun _ _ q => q.sameS s13) fun x hx e => n4 (e ▸ hx)
        · rw [← hH4]
          exact lsts_upd t4 (Paired.mapP hp2 fun _ _ q => q.sameS s13) fun x hx e => n5 (e ▸ hx)
      have S4 : Stp H H4 (bl :: (l₁ ++ ab :: l₂)) (bl :: (l₁ ++ ab :: l₂)) := ⟨fun c u hc hn => k4 c u (fun e => hn (by simp [e])) (s13 c u hc), fun c hc => .inl hc⟩
      refine ⟨_, rfl, ab, _, rfl, .inl (SqL.of e4), _, _, rfl, rfl, _, rfl, ?_⟩
      have hadj := G.adj
      rw [List.map_append, List.map_cons] at hadj
      refine ite2 (fun c9 => ?_) (fun c9 => ?_)
      · have h9 : b'.length = 9 := by
          have := of_decide_eq_true c9
          rw [List.length_map] at this
          omega
        refine ⟨_, rfl, o, dx, _, rfl, k4 _ _ hoa (s13 _ _ ho), oflds_no _ _ (by decide +kernel) (by decide +kernel), _, rfl, w, o, bl, _, L, b', R, ?_, O4, ?_, fun bas' H5 O5 S5 => ?_⟩
        · show [V.ref o, V.int _] = _
          rw [ep']
        · have := G.len
          rw [hlen]
          omega
        · rw [h9] at O5
          refine fin bas' _ H5 O5 ⟨?_, ?_⟩ ?_ (S4.trans S5)
          · rw [List.map_append, List.map_cons, List.map_cons, List.length_take, List.length_drop, h9]
            exact Adj.split (by decide) hadj
          · have e : (L ++ b'.take (9 / 2) :: b'.drop (9 / 2) :: R).flatten = (L ++ b' :: R).flatten := by simp [← List.append_assoc (b'.take 4), List.take_append_drop]
            rw [e]
            exact hins
          · have e : (L ++ b'.take (9 / 2) :: b'.drop (9 / 2) :: R).flatten = (L ++ b' :: R).flatten := by simp [← List.append_assoc (b'.take 4), List.take_append_drop]
            rw [e]
            exact hperm
      · refine fin _ _ H4 O4 ⟨?_, hins⟩ hperm S4
        have h9 : b'.length ≤ 8 := by
          have : ¬ ((8 : Int) < _) := fun z => c9 (decide_eq_true z)
          rw [List.length_map] at this
          omega
        rw [List.map_append, List.map_cons]
        exact hadj.put (by omega) h9
end
end K1

set_option linter.all false
set_option maxRecDepth 100000
set_option maxHeartbeats 4000000
namespace K1
open PySem L2 TO
section
variable {P : Program} {w : World} {K : PySem.W.Frag} {mg : Str → Option Value} {base : Heap}
/-! ### join_if_few -/
def Joined (B : List (List Row)) (p : Int) (B' : List (List Row)) : Prop :=
  ((p < 0 ∨ (B.length : Int) ≤ p + 1) ∧ B' = B) ∨ ∃ (B₁ : List (List Row)) (x y : List Row) (B₂ : List (List Row)), p = B₁.length ∧ B = B₁ ++ x :: y :: B₂ ∧ B' = if x.length + y.length < 5 then B₁ ++ (x ++ y) :: B₂ else B
def spJoin (C : Addr) : Sp := fun vs H Q _ => ∃ (w : Bool) (o bl : Addr) (bas : List Addr) (B : List (List Row)) (p : Int), vs = [.ref o, .int p] ∧ OrdAt C w H o bl bas B ∧ (∀ b ∈ B, b.length ≤ 8) ∧ bas.length < 100000 ∧
  ∀ (bas' : List Addr) (B' : List (List Row)) (H' : Hp), OrdAt C w H' o bl bas' B' → Stp H H' (bl :: bas) (bl :: bas') → Joined B p B' → Q .non H'
theorem scJoin : FnScope ["self", "place", "joined"] ["self", "place"] (defScope sJoin) := ⟨rfl, rfl, rfl, by decide +kernel, rfl, by decide +kernel, by decide +kernel⟩
theorem split2 {α : Type} {l : List α} {i : Nat} (h : i + 1 < l.length) : ∃ l₁ x y l₂, l = l₁ ++ x :: y :: l₂ ∧ l₁.length = i := by
  obtain ⟨l₁, l₂, e, e2⟩ := split_at (List.getElem?_eq_getElem (show i < l.length by omega))
  cases l₂ with
  | nil => rw [e] at h; simp at h; omega
  | cons y l₂ => exact ⟨l₁, _, y, l₂, e, e2⟩
theorem ok_join {f C : Addr} {fd : FuncData} (F : Fun K "join_if_few" "Order.join_if_few" sJoin f fd) (T : Txt K mg C) : FnOk P w K mg base CX0 1 f fd ["self", "place"] (spJoin C) := by
  refine F.ok scJoin (fun vs H Q E h => ?_) (fun cdv A outer s H vs Q E hr h => ?_)
  · obtain ⟨w, o, bl, bas, B, p, rfl, _⟩ := h
    rfl
  · obtain ⟨w, o, bl, bas, B, p, rfl, O, h8, hsz, fin⟩ := h
    obtain ⟨⟨dx, ho⟩, hbl, hbs, hnd⟩ := id O
    obtain ⟨t5, h5⟩ := T.least
    have hlen : bas.length = B.length := Paired.length hbs
    refine ⟨_, pss_cons (ps_if (PW.pt (pw_or (pt_cmpR op_lt (pv 1) pe_int (nomark _)) (pw_or1 (pt_cmpR op_ge (pe_op op_add (pv 1) pe_int) (pe_callB call_len_seq (by rfl) T.len PySem.boot_len (pa_cons (pe_fld (pv 0) rfl) pa_nil)) (nomark _))))) (pss_one ps_retN) pss_nil)
      (pss_cons (ps_set (i := 2) scJoin.nd rfl (Or.inl rfl) (pe_op op_cat (pe_ix ix_list (pe_fld (pv 0) rfl) (pv 1) (fun _ _ => rfl)) (pe_ix ix_list (pe_fld (pv 0) rfl) (pe_op op_add (pv 1) pe_int) (fun _ _ => rfl))))
      (pss_one (ps_if (pt_cmpR op_lt (pe_callB call_len_seq (by rfl) T.len PySem.boot_len (pa_cons (pv 2) pa_nil)) (pe_gI h5) (nomark _))
        (pss_cons (ps_asg (pv 2) (pg_sub (pe_fld (pv 0) rfl) (pv 1) set_list)) (pss_one (ps_expr (pe_bm PySem.F.plainAttrs_list PySem.F.slot_list_pop PySem.F.type_list_pop mt_popAt (pe_fld (pv 0) rfl) (pa_cons (pe_op op_add (pv 1) pe_int) pa_nil))))) pss_nil))), ?_⟩
    refine ⟨_, rfl, _, _, rfl, rfl, _, rfl, ?_⟩
    refine ite2 (fun c => ?_) (fun c => ?_)
    · exact fin bas B H O (Stp.of_same (Same.refl _)) (.inl ⟨.inl (of_decide_eq_true c), rfl⟩)
    have hp0 : 0 ≤ p := by have : ¬ p < 0 := fun z => c (decide_eq_true z); omega
    refine ⟨_, rfl, _, _, rfl, rfl, _, rfl, o, C, dx, _, _, rfl, ho, T.cl, T.nB, oflds_blocks _ _, bl, _, rfl, .inl (SqL.of hbl), _, _, rfl, rfl, _, rfl, ?_⟩
    refine ite2 (fun c2 => ?_) (fun c2 => ?_)
    · refine fin bas B H O (Stp.of_same (Same.refl _)) (.inl ⟨.inr ?_, rfl⟩)
      have := of_decide_eq_true c2
      rw [List.length_map, hlen] at this
      exact this
    have hp1 : p + 1 < B.length := by
      have : ¬ ((_ : Int) ≤ p + 1) := fun z => c2 (decide_eq_true z)
      rw [List.length_map, hlen] at this
      omega
    obtain ⟨B₁, x, y, B₂, rfl, eB⟩ := split2 (l := B) (i := p.toNat) (by omega)
    have ep : p = (B₁.length : Int) := by omega
    subst ep
    obtain ⟨l₁, ax, l₂', rfl, q1, hx0, q2⟩ := paired_split hbs
    cases q2 with
    | @cons ay _ l₂ _ hy0 q2 =>
    obtain ⟨xs, hx, hxR⟩ := id hx0
    obtain ⟨ys, hy, hyR⟩ := id hy0
    have hl1 : l₁.length = B₁.length := Paired.length q1
    have lx := hxR.len
    have ly := hyR.len
    have x8 := h8 x (by simp)
    have y8 := h8 y (by simp)
    have gx : ((l₁ ++ ax :: ay :: l₂).map V.ref)[B₁.length]? = some (V.ref ax) := by rw [List.getElem?_map, ← hl1, get_mid]; rfl
    have gy : ((l₁ ++ ax :: ay :: l₂).map V.ref)[B₁.length + 1]? = some (V.ref ay) := by
      rw [List.getElem?_map, ← hl1, show l₁ ++ ax :: ay :: l₂ = (l₁ ++ [ax]) ++ ay :: l₂ by simp, show l₁.length + 1 = (l₁ ++ [ax]).length by simp, get_mid]; rfl
    refine ⟨_, rfl, o, C, dx, _, _, rfl, ho, T.cl, T.nB, oflds_blocks _ _, _, rfl, bl, _, _, _, rfl, rfl, SqL.of hbl, atI_nat gx, _, rfl, o, C, dx, _, _, rfl, ho, T.cl, T.nB, oflds_blocks _ _, _, rfl, _, _, rfl, rfl, bl, _, _, _, rfl, rfl, SqL.of hbl, (atI_nat (j := B₁.length + 1) gy),
      ax, ay, _, _, rfl, rfl, hx, hy, ?_, fun p1 f1 => ?_⟩
    · rw [List.length_map, List.length_map]
      exact Nat.le_of_lt (small1000 (by omega))
    rw [← List.map_append]
    obtain ⟨n1, n2, n3, n4, n5, n6⟩ := nd_parts hnd
    have ho1 : o ≠ p1 := ne_of_none ho f1
    have hb1 : bl ≠ p1 := ne_of_none hbl f1
    have hob : o ≠ bl := ne_of ho hbl (by intro z; cases z)
    refine ⟨_, rfl, p1, _, rfl, .inl (SqL.of upd_same), _, _, rfl, rfl, _, rfl, ?_⟩
    refine ite2 (fun c5 => ?_) (fun c5 => ?_)
    · have c5' : x.length + y.length < 5 := by
        have := of_decide_eq_true c5
        rw [List.length_map, List.length_append] at this
        omega
      have eset : ((l₁ ++ ax :: ay :: l₂).map V.ref).set B₁.length (.ref p1) = (l₁ ++ p1 :: ay :: l₂).map V.ref := by
        rw [← hl1, List.map_append, List.map_cons, List.map_append, List.map_cons]
        have := set_mid (l₁ := l₁.map V.ref) (l₂ := (ay :: l₂).map V.ref) (a := V.ref ax) (b := V.ref p1)
        rw [List.length_map] at this
        exact this
      refine ⟨_, rfl, _, rfl, o, C, dx, _, _, rfl, (by rw [upd_ne ho1]; exact ho), T.cl, T.nB, oflds_blocks _ _, _, rfl, bl, _, _, B₁.length, rfl, rfl, (by rw [upd_ne hb1]; exact hbl), (by rw [List.length_map]; exact ixN_nat (by simp [hl1])), ?_⟩
      rw [eset]
      have ge : ((l₁ ++ p1 :: ay :: l₂).map V.ref)[B₁.length + 1]? = some (V.ref ay) := by
        rw [List.getElem?_map, ← hl1, show l₁ ++ p1 :: ay :: l₂ = (l₁ ++ [p1]) ++ ay :: l₂ by simp, show l₁.length + 1 = (l₁ ++ [p1]).length by simp, get_mid]; rfl
      have er : ((l₁ ++ p1 :: ay :: l₂).map V.ref).eraseIdx (B₁.length + 1) = (l₁ ++ p1 :: l₂).map V.ref := by
        rw [← hl1, erase_map, show l₁ ++ p1 :: ay :: l₂ = (l₁ ++ [p1]) ++ ay :: l₂ by simp, show l₁.length + 1 = (l₁ ++ [p1]).length by simp, erase_mid]; simp
      have hls : B₁.length + 1 < ((l₁ ++ p1 :: ay :: l₂).map V.ref).length := by
        simp only [List.length_map, List.length_append, List.length_cons]; omega
      have h63 : ((B₁.length : Int) + 1) < 2 ^ 63 := by
        have : B₁.length < 100000 := by simp only [List.length_append, List.length_cons] at hsz; omega
        omega
      refine ⟨_, rfl, o, C, dx, _, _, rfl, (by rw [upd_ne hob, upd_ne ho1]; exact ho), T.cl, T.nB, oflds_blocks _ _, .inl ⟨rfl, _, SqL.of upd_same⟩, _, rfl, _, _, rfl, rfl, bl, _, _, B₁.length + 1, _, rfl, rfl, upd_same, by omega, h63, ?_, ge, ?_⟩
      · rw [PySem.seqIndex_of (by omega) (by omega)]
        rfl
      rw [er]
      have nay : bl ≠ ay := fun e => n3 (by simp [e])
      have hf1 : ∀ z ∈ l₁, z ≠ p1 ∧ z ≠ bl := fun z hz => ⟨lsts_free q1 f1 z hz, fun e => n1 (e ▸ hz)⟩
      have hf2 : ∀ z ∈ l₂, z ≠ p1 ∧ z ≠ bl := fun z hz => ⟨lsts_free q2 f1 z hz, fun e => n3 (by rw [← e]; simp [hz])⟩
      have t1 : NoTup H p1 := NoTup.none f1
      have t2 : NoTup (upd H p1 (.lst ((xs ++ ys).map V.ref))) bl := NoTup.lst (ys := (l₁ ++ ax :: ay :: l₂).map V.ref) (by rw [upd_ne hb1]; exact hbl)
      have t3 : NoTup (upd (upd H p1 (.lst ((xs ++ ys).map V.ref))) bl (.lst ((l₁ ++ p1 :: ay :: l₂).map V.ref))) bl := NoTup.lst upd_same
      have nd' : (bl :: (l₁ ++ l₂)).Nodup := by
        have := nd_parts (bl := bl) (a := ay) (l₁ := l₁) (l₂ := l₂) n6
        exact this.2.2.2.2.2
      refine fin (l₁ ++ p1 :: l₂) (B₁ ++ (x ++ y) :: B₂) _ ⟨⟨dx, ?_⟩, upd_same, ?_, ?_⟩ ⟨fun c u hc hn => ?_, fun c hc => ?_⟩ (.inr ⟨B₁, x, y, B₂, rfl, rfl, by rw [if_pos c5']⟩)
      · rw [upd_ne hob, upd_ne hob, upd_ne ho1]; exact ho
      · refine paired_app ?_ (.cons ⟨xs ++ ys, ?_, ?_⟩ ?_)
        · exact lsts_upd t3 (lsts_upd t2 (lsts_upd t1 q1 fun z hz => (hf1 z hz).1) fun z hz => (hf1 z hz).2) fun z hz => (hf1 z hz).2
        · rw [upd_ne hb1.symm, upd_ne hb1.symm, upd_same]
        · exact (RowsAt.app hxR hyR).same fun b zs h => t3.keep _ _ (t2.keep _ _ (t1.keep _ _ h))
        · exact lsts_upd t3 (lsts_upd t2 (lsts_upd t1 q2 fun z hz => (hf2 z hz).1) fun z hz => (hf2 z hz).2) fun z hz => (hf2 z hz).2
      · exact nd_ins nd' hb1.symm (fun z => (hf1 _ z).1 rfl) fun z => (hf2 _ z).1 rfl
      · have c1 : c ≠ bl := fun e => hn (by rw [e]; exact List.mem_cons_self ..)
        rw [upd_ne c1, upd_ne c1, upd_ne (ne_of_none hc f1)]
        exact hc
      · simp only [List.mem_cons, List.mem_append] at hc ⊢
        rcases hc with e | e | e | e
        · exact .inl (.inl e)
        · exact .inl (.inr (.inl e))
        · exact .inr (by rw [e]; exact f1)
        · exact .inl (.inr (.inr (.inr (.inr e))))
    · have c5' : ¬ (x.length + y.length < 5) := fun z => c5 (decide_eq_true (by rw [List.length_map, List.length_append]; omega))
      exact fin _ _ _ (O.same (Same.upd_new f1)) (Stp.of_same (Same.upd_new f1)) (.inr ⟨B₁, x, y, B₂, rfl, rfl, by rw [if_neg c5']⟩)
end
end K1

set_option linter.all false
set_option maxRecDepth 100000
set_option maxHeartbeats 4000000
namespace K1
open PySem L2 TO
theorem joined_at {B₁ B₂ B' : List (List Row)} {x y : List Row} (h : Joined (B₁ ++ x :: y :: B₂) (B₁.length : Int) B') : B' = if x.length + y.length < 5 then B₁ ++ (x ++ y) :: B₂ else B₁ ++ x :: y :: B₂ := by
  rcases h with ⟨h, e⟩ | ⟨C₁, u, v, C₂, h1, h2, h3⟩
  · simp only [List.length_append, List.length_cons] at h
    omega
  · have hl : B₁.length = C₁.length := by omega
    obtain ⟨e1, e2⟩ := List.append_inj h2 hl
    subst e1
    injection e2 with e3 e4
    injection e4 with e5 e6
    subst e3 e5 e6
    exact h3
theorem joined_end {B₁ B' : List (List Row)} {x : List Row} (h : Joined (B₁ ++ [x]) (B₁.length : Int) B') : B' = B₁ ++ [x] := by
  rcases h with ⟨h, e⟩ | ⟨C₁, u, v, C₂, h1, h2, h3⟩
  · exact e
  · have := congrArg List.length h2
    simp only [List.length_append, List.length_cons, List.length_nil] at this
    omega
theorem joined_neg {B B' : List (List Row)} {p : Int} (hp : p < 0) (h : Joined B p B') : B' = B := by
  rcases h with ⟨h, e⟩ | ⟨C₁, u, v, C₂, h1, h2, h3⟩
  · exact e
  · omega
theorem joined_good {B B' : List (List Row)} {p : Int} (g : Adj 8 (B.map List.length)) (h : Joined B p B') : B' = B := by
  rcases h with ⟨h, e⟩ | ⟨C₁, u, v, C₂, h1, h2, h3⟩
  · exact e
  · subst h2
    rw [List.map_append, List.map_cons, List.map_cons, Adj.app] at g
    obtain ⟨_, _, _, _, _, _, g, _⟩ := g
    rw [if_neg (by omega)] at h3
    exact h3
theorem let_good {B₁ B₂ By Bz : List (List Row)} {b b' : List Row} (g : Adj 8 ((B₁ ++ b :: B₂).map List.length)) (hb : b.length = b'.length + 1) (h1 : 1 ≤ b'.length)
    (j1 : Joined (B₁ ++ b' :: B₂) (B₁.length : Int) By) (j2 : Joined By ((B₁.length : Int) - 1) Bz) : Adj 8 (Bz.map List.length) ∧ Bz.flatten = (B₁ ++ b' :: B₂).flatten := by
  rw [List.map_append, List.map_cons, hb] at g
  -- where the block's right neighbour is not joined
  have right : By = B₁ ++ b' :: B₂ → (∀ c r, B₂.map List.length = c :: r → 5 ≤ b'.length + c) → Adj 8 (Bz.map List.length) ∧ Bz.flatten = (B₁ ++ b' :: B₂).flatten := by
    intro e hr
    subst e
    rcases List.eq_nil_or_concat B₁ with e | ⟨A, e0, e⟩
    · subst e
      have z := joined_neg (by simp) j2
      subst z
      exact ⟨by simpa using Adj.less (l₁ := []) g h1 (by simp [lastN]; omega) hr, rfl⟩
    · rw [List.concat_eq_append] at e
      subst e
      have ep : ((A ++ [e0]).length : Int) - 1 = (A.length : Int) := by simp
      rw [ep, List.append_assoc] at j2
      have z := joined_at (B₁ := A) (x := e0) (y := b') (B₂ := B₂) j2
      by_cases c : e0.length + b'.length < 5
      · rw [if_pos c] at z
        subst z
        refine ⟨?_, by simp⟩
        rw [List.map_append, List.map_cons, List.length_append]
        rw [List.map_append, List.append_assoc] at g
        exact Adj.less_join_l g c
      · rw [if_neg c] at z
        subst z
        refine ⟨?_, by simp⟩
        have q := Adj.less (l₁ := (A ++ [e0]).map List.length) g h1 (by rw [List.map_append]; simp only [List.map_cons, List.map_nil]; rw [lastN_snoc]; omega) hr
        simpa using q
  cases B₂ with
  | nil => exact right (joined_end j1) (fun c r h => by cases h)
  | cons y R =>
    have z := joined_at j1
    by_cases c : b'.length + y.length < 5
    · rw [if_pos c] at z
      subst z
      have g' : Adj 8 ((B₁ ++ (b' ++ y) :: R).map List.length) := by
        rw [List.map_append, List.map_cons, List.length_append]
        exact Adj.less_join g h1 c
      have z2 := joined_good g' j2
      subst z2
      exact ⟨g', by simp⟩
    · rw [if_neg c] at z
      exact right z fun d r h => by
        injection h with h _
        omega
theorem erase_ix {α : Type} [DecidableEq α] {a : α} : ∀ {l : List α}, a ∈ l → l.eraseIdx (l.idxOf a) = l.erase a
  | x :: r, h => by
    rw [List.idxOf_cons, List.erase_cons]
    cases e : x == a with
    | true => simp
    | false =>
      have : a ∈ r := by
        rcases List.mem_cons.mp h with q | q
        · subst q; simp at e
        · exact q
      simp only [cond_false, List.eraseIdx_cons_succ]
      rw [erase_ix this]
      simp
section
variable {P : Program} {w : World} {K : PySem.W.Frag} {mg : Str → Option Value} {base : Heap}
def spLet (C : Addr) : Sp := fun vs H Q _ => ∃ (w : Bool) (o bl a : Addr) (bas : List Addr) (B : List (List Row)) (ρ : Row), vs = [.ref o, .ref a] ∧ OrdAt C w H o bl bas B ∧ RowAt H a ρ ∧ GoodB w B ∧ ρ ∈ B.flatten ∧ B.flatten.length < 10000 ∧
  ∀ (bas' : List Addr) (B' : List (List Row)) (H' : Hp), OrdAt C w H' o bl bas' B' → GoodB w B' → (ρ :: B'.flatten).Perm B.flatten → Stp H H' (bl :: bas) (bl :: bas') → Q .non H'
theorem scLet : FnScope ["self", "row", "place", "block"] ["self", "row"] (defScope sLet) := ⟨rfl, rfl, rfl, by decide +kernel, rfl, by decide +kernel, by decide +kernel⟩
theorem ok_let {f fK fBA fJ C : Addr} {fd fdK fdBA fdJ : FuncData} (F : Fun K "let_out" "Order.let_out" sLet f fd) (T : Txt K mg C) (gK : Gf K mg "key_of" fK fdK ["word", "row"]) (GK : FnOk P w K mg base CX0 2 fK fdK ["word", "row"] spKey)
    (mBA : Mf K C "blocks_ahead" fBA fdBA ["self", "key"]) (GBA : FnOk P w K mg base CX0 3 fBA fdBA ["self", "key"] (spBA C)) (mJ : Mf K C "join_if_few" fJ fdJ ["self", "place"]) (GJ : FnOk P w K mg base CX0 1 fJ fdJ ["self", "place"] (spJoin C)) :
    FnOk P w K mg base CX0 4 f fd ["self", "row"] (spLet C) := by
  refine F.ok scLet (fun vs H Q E h => ?_) (fun cdv A outer s H vs Q E hr h => ?_)
  · obtain ⟨w, o, bl, a, bas, B, ρ, rfl, _⟩ := h
    rfl
  · obtain ⟨w, o, bl, a, bas, B, ρ, rfl, O, ha, G, hm, hsz, fin⟩ := h
    obtain ⟨⟨dx, ho⟩, hbl, hbs, hnd⟩ := id O
    have hr1 : Room 1 _ := hr.mono (by decide)
    have hr2 : Room 2 _ := hr.mono (by decide)
    have hlen : bas.length = B.length := Paired.length hbs
    refine ⟨_, pss_cons (ps_set (i := 2) scLet.nd rfl (Or.inl rfl) (pe_meth (pv 0) T.cl mBA.m GBA hr mBA.b .nil pass0 (pa_cons (pe_call GK hr2 rfl gK.mg gK.kp gK.b .nil pass0 (pa_cons (pe_fld (pv 0) rfl) (pa_cons (pv 1) pa_nil))) pa_nil)))
      (pss_cons (ps_set (i := 3) scLet.nd rfl (Or.inl rfl) (pe_ix ix_list (pe_fld (pv 0) rfl) (pv 2) (fun _ _ => rfl)))
      (pss_cons (ps_expr (pe_bm PySem.F.plainAttrs_list PySem.F.slot_list_remove PySem.F.type_list_remove (mt_remove (hu_of hr)) (pv 3) (pa_cons (pv 1) pa_nil)))
      (pss_one (ps_if (pt_cmpR op_gt (pe_callB call_len_seq (by rfl) T.len PySem.boot_len (pa_cons (pv 3) pa_nil)) pe_int (nomark _))
        (pss_cons (ps_expr (pe_meth (pv 0) T.cl mJ.m GJ hr1 mJ.b .nil pass0 (pa_cons (pv 2) pa_nil))) (pss_one (ps_expr (pe_meth (pv 0) T.cl mJ.m GJ hr1 mJ.b .nil pass0 (pa_cons (pe_op op_sub (pv 2) pe_int) pa_nil)))))
        (pss_one (ps_expr (pe_bm PySem.F.plainAttrs_list PySem.F.slot_list_pop PySem.F.type_list_pop mt_popAt (pe_fld (pv 0) rfl) (pa_cons (pv 2) pa_nil)))))))), ?_⟩
    refine ⟨_, rfl, o, dx, _, rfl, ho, oflds_no _ _ (by decide +kernel) (by decide +kernel), _, rfl, o, C, dx, _, _, rfl, ho, T.cl, T.nW, oflds_word _ _, _, rfl, w, a, ρ, rfl, ha, fun k hk => ?_⟩
    have s1 : Same H (upd H k (.tup (keyV w ρ))) := Same.upd_new hk
    refine ⟨w, o, bl, k, bas, B, keyV w ρ, rfl, O.same s1, upd_same, fun ρ' => key_alike w ρ' ρ, G.srt, G.ne, fun B₁ B₂ H2 s2 eB hB1 hB2 => ?_⟩
    have s12 : Same H H2 := s1.trans s2
    have hB1' : ∀ y ∈ B₁.flatten, ltR w y ρ = true := by
      have := G.srt
      rw [eB, List.flatten_append, Srt.app] at this
      exact ahead_all (P := fun y => ltR w y ρ) (down_key w (keyV w ρ)) this.1 fun c hc => lastLt_ex (hB1 c hc)
    cases B₂ with
    | nil =>
      rw [List.append_nil] at eB
      subst eB
      exact (no_end (ltR_irrefl w) hm hB1').elim
    | cons b B₂ =>
    subst eB
    obtain ⟨z, ez, pz⟩ := lastLt_no (hB2 b (List.mem_cons_self ..)) (G.ne b (by simp))
    have hρb : ρ ∈ b := there_block (ltR_irrefl w) G.srt hm hB1' ez pz
    obtain ⟨l₁, ab, l₂, rfl, hp1, hab0, hp2⟩ := paired_split hbs
    obtain ⟨as, hab, hRb⟩ := id hab0
    have hl1 : l₁.length = B₁.length := Paired.length hp1
    obtain ⟨n1, n2, n3, n4, n5, n6⟩ := nd_parts hnd
    have gb : ((l₁ ++ ab :: l₂).map V.ref)[B₁.length]? = some (V.ref ab) := by rw [List.getElem?_map, ← hl1, get_mid]; rfl
    refine ⟨_, rfl, o, C, dx, _, _, rfl, s12 _ _ ho, T.cl, T.nB, oflds_blocks _ _, _, rfl, bl, _, _, _, rfl, rfl, SqL.of (s12 _ _ hbl), atI_nat gb, ?_⟩
    refine ⟨_, rfl, .inl ⟨rfl, _, SqL.of (s12 _ _ hab)⟩, _, rfl, ab, as, a, b, ρ, rfl, rfl, s12 _ _ hab, hRb.same (fun b xs q => s12 _ _ q), s12 _ _ ha, hρb, ?_⟩
    have hR4 := ((hRb.eraseIdx (b.idxOf ρ)).same fun b xs q => s12 _ _ q).same (NoTup.keep (o := .lst ((as.eraseIdx (b.idxOf ρ)).map V.ref)) (NoTup.lst (s12 _ _ hab)))
    rw [erase_ix hρb] at hR4
    have hoa : o ≠ ab := ne_of ho hab (by intro z; cases z)
    have hob : o ≠ bl := ne_of ho hbl (by intro z; cases z)
    have t4 : NoTup H2 ab := NoTup.lst (s12 _ _ hab)
    have hle : b.length = (b.erase ρ).length + 1 := by
      have := List.length_erase_of_mem hρb
      have : 0 < b.length := List.length_pos_of_mem hρb
      omega
    have hE := erase_blocks G.srt hρb
    generalize as.eraseIdx (b.idxOf ρ) = as' at hR4 ⊢
    generalize hH4 : upd H2 ab (.lst (as'.map V.ref)) = H4 at hR4 ⊢
    have e4 : H4 ab = some (.lst (as'.map V.ref)) := by rw [← hH4]; exact upd_same
    have k4 : ∀ c u, c ≠ ab → H2 c = some u → H4 c = some u := fun c u hc q => by rw [← hH4, upd_ne hc]; exact q
    have hla := hR4.len
    have hp1' : Paired (LstAt H4) l₁ B₁ := by
      rw [← hH4]
      exact lsts_upd t4 (Paired.mapP hp1 fun _ _ q => q.sameS s12) fun x hx e => n4 (e ▸ hx)
    have hp2' : Paired (LstAt H4) l₂ B₂ := by
      rw [← hH4]
      exact lsts_upd t4 (Paired.mapP hp2 fun _ _ q => q.sameS s12) fun x hx e => n5 (e ▸ hx)
    have O4 : OrdAt C w H4 o bl (l₁ ++ ab :: l₂) (B₁ ++ b.erase ρ :: B₂) := ⟨⟨dx, k4 _ _ hoa (s12 _ _ ho)⟩, k4 _ _ n2 (s12 _ _ hbl), paired_app hp1' (.cons ⟨as', e4, hR4⟩ hp2'), hnd⟩
    have S4 : Stp H H4 (bl :: (l₁ ++ ab :: l₂)) (bl :: (l₁ ++ ab :: l₂)) := ⟨fun c u hc hn => k4 c u (fun e => hn (by simp [e])) (s12 c u hc), fun c hc => .inl hc⟩
    refine ⟨_, rfl, ab, _, rfl, .inl (SqL.of e4), _, _, rfl, rfl, _, rfl, ?_⟩
    have hB8 : ∀ c ∈ B₁ ++ b :: B₂, c.length ≤ 8 := fun c hc => (adj_all G.adj c.length (List.mem_map.mpr ⟨c, hc, rfl⟩)).2
    have hBl := G.len
    refine ite2 (fun c0 => ?_) (fun c0 => ?_)
    · have h0 : 1 ≤ (b.erase ρ).length := by
        have := of_decide_eq_true c0
        rw [List.length_map] at this
        omega
      have h8 : ∀ c ∈ B₁ ++ b.erase ρ :: B₂, c.length ≤ 8 := fun c hc => by
        simp only [List.mem_append, List.mem_cons] at hc
        rcases hc with q | q | q
        · exact hB8 c (by simp [q])
        · have := hB8 b (by simp); subst q; omega
        · exact hB8 c (by simp [q])
      refine ⟨_, rfl, o, dx, _, rfl, k4 _ _ hoa (s12 _ _ ho), oflds_no _ _ (by decide +kernel) (by decide +kernel), _, rfl, w, o, bl, _, _, _, rfl, O4, h8, by omega, fun bas5 B5 H5 O5 S5 j5 => ?_⟩
      obtain ⟨⟨dx5, ho5⟩, hbl5, hbs5, _⟩ := id O5
      have hb5 : (∀ c ∈ B5, c.length ≤ 8) ∧ B5.length ≤ (B₁ ++ b.erase ρ :: B₂).length := by
        rcases j5 with ⟨_, e⟩ | ⟨C₁, u, v, C₂, h1, h2, h3⟩
        · subst e; exact ⟨h8, Nat.le_refl _⟩
        · by_cases q : u.length + v.length < 5
          · rw [if_pos q] at h3
            subst h3
            rw [h2] at h8 ⊢
            refine ⟨fun c hc => ?_, by simp⟩
            simp only [List.mem_append, List.mem_cons] at hc
            rcases hc with z | z | z
            · exact h8 c (by simp [z])
            · subst z; rw [List.length_append]; omega
            · exact h8 c (by simp [z])
          · rw [if_neg q] at h3
            subst h3
            exact ⟨h8, Nat.le_refl _⟩
      have hl5 : bas5.length = B5.length := Paired.length hbs5
      refine ⟨_, rfl, o, dx5, _, rfl, ho5, oflds_no _ _ (by decide +kernel) (by decide +kernel), _, rfl, _, _, rfl, rfl, w, o, bl, _, _, _, rfl, O5, hb5.1, ?_, fun bas6 B6 H6 O6 S6 j6 => ?_⟩
      · have := hb5.2
        simp only [List.length_append, List.length_cons] at this hBl
        omega
      · have LG := let_good G.adj hle h0 j5 j6
        refine fin bas6 B6 H6 O6 ⟨LG.1, ?_⟩ ?_ ((S4.trans S5).trans S6)
        · rw [LG.2]; exact hE.1
        · rw [LG.2]; exact hE.2
    · have h0 : (b.erase ρ).length = 0 := by
        have : ¬ ((0 : Int) < _) := fun z => c0 (decide_eq_true z)
        rw [List.length_map] at this
        omega
      have he : b.erase ρ = [] := List.eq_nil_of_length_eq_zero h0
      have er : ((l₁ ++ ab :: l₂).map V.ref).eraseIdx B₁.length = (l₁ ++ l₂).map V.ref := by
        rw [← hl1, erase_map, erase_mid]
      have h63 : (B₁.length : Int) < 2 ^ 63 := by
        simp only [List.length_append, List.length_cons] at hBl
        omega
      refine ⟨_, rfl, o, C, dx, _, _, rfl, k4 _ _ hoa (s12 _ _ ho), T.cl, T.nB, oflds_blocks _ _, .inl ⟨rfl, _, SqL.of (k4 _ _ n2 (s12 _ _ hbl))⟩, _, rfl, bl, _, _, B₁.length, _, rfl, rfl, k4 _ _ n2 (s12 _ _ hbl), by omega, h63, ?_, gb, ?_⟩
      · rw [PySem.seqIndex_of (by omega) (by simp; omega)]
        rfl
      rw [er]
      have t5 : NoTup H4 bl := NoTup.lst (k4 _ _ n2 (s12 _ _ hbl))
      refine fin (l₁ ++ l₂) (B₁ ++ B₂) _ ⟨⟨dx, by rw [upd_ne hob]; exact k4 _ _ hoa (s12 _ _ ho)⟩, upd_same, paired_app (lsts_upd t5 hp1' fun x hx e => n1 (e ▸ hx)) (lsts_upd t5 hp2' fun x hx e => n3 (e ▸ hx)), n6⟩ ⟨?_, ?_⟩ ?_ ?_
      · have g := G.adj
        rw [List.map_append, List.map_cons, hle, h0] at g
        rw [List.map_append]
        exact Adj.gone g
      · have := hE.1
        rw [he] at this
        simpa using this
      · have := hE.2
        rw [he] at this
        simpa using this
      · refine ⟨fun c u hc hn => ?_, fun c hc => .inl ?_⟩
        · rw [upd_ne (fun e => hn (by simp [e]))]
          exact S4.keep c u hc hn
        · simp only [List.mem_cons, List.mem_append] at hc ⊢
          rcases hc with q | q | q
          · exact .inl q
          · exact .inr (.inl q)
          · exact .inr (.inr (.inr q))
end
end K1

set_option linter.all false
set_option maxRecDepth 100000
set_option maxHeartbeats 4000000
namespace K1
open PySem L2 TO
/-! rules by their fragment (within a comprehension) -/
def rLen (K : PySem.W.Frag) : List V → Hp → VK → Prop := fun xs H Q => ∃ p ys, xs = [.ref p] ∧ (SqL K H p ys ∨ SqT K H p ys) ∧ Q (.int ys.length) H
theorem call_lenK {X : Cx} (K : PySem.W.Frag) (hK : X.K = K := by rfl) : CallR X (.builtin "len") (rLen K) := by subst hK; exact call_len_seq
theorem ix_tupK {X : Cx} (K : PySem.W.Frag) (hK : X.K = K := by rfl) : IxR X (rIxT K) := by subst hK; exact ix_tup
theorem ix_listK {X : Cx} (K : PySem.W.Frag) (hK : X.K = K := by rfl) : IxR X (rIxL K) := by subst hK; exact ix_list
theorem op_ltTVK {X : Cx} (K : PySem.W.Frag) (hu : X.A.units < cLine) (hK : X.K = K := by rfl) : OpR X (compareOp .Lt) (rLtV K) := by subst hK; exact op_ltTV hu
section
variable {P : Program} {w : World} {K : PySem.W.Frag} {mg : Str → Option Value} {base : Heap}
/-! ### rows -/
theorem flat_len {B : List (List Row)} : ∀ i, ((B.take i).flatten).length ≤ B.flatten.length := fun i => by
  have e : (B.take i ++ B.drop i).flatten = B.flatten := by rw [List.take_append_drop]
  rw [← e, List.flatten_append, List.length_append]
  omega
def spRows (C : Addr) : Sp := fun vs H Q _ => ∃ (w : Bool) (o bl : Addr) (bas : List Addr) (B : List (List Row)), vs = [.ref o] ∧ OrdAt C w H o bl bas B ∧ B.flatten.length < 10000 ∧ ∀ (l : Addr) (H' : Hp), H l = none → Same H H' → LstAt H' l B.flatten → Q (.ref l) H'
theorem scRows : FnScope ["self", "found", "block"] ["self"] (defScope sRows) := ⟨rfl, rfl, rfl, by decide +kernel, rfl, by decide +kernel, by decide +kernel⟩
theorem ok_rows {f C : Addr} {fd : FuncData} (F : Fun K "rows" "Order.rows" sRows f fd) (T : Txt K mg C) : FnOk P w K mg base CX0 1 f fd ["self"] (spRows C) := by
  refine F.ok scRows (fun vs H Q E h => ?_) (fun cdv A outer s H vs Q E hr h => ?_)
  · obtain ⟨w, o, bl, bas, B, rfl, _⟩ := h
    rfl
  · obtain ⟨w, o, bl, bas, B, rfl, O, hsz, fin⟩ := h
    obtain ⟨⟨dx, ho⟩, hbl, hbs, hnd⟩ := id O
    have hlen : bas.length = B.length := Paired.length hbs
    refine ⟨_, pss_cons (ps_set (i := 1) scRows.nd rfl (Or.inl rfl) (pe_lst pa_nil))
      (pss_cons (ps_for PassesOwn.never rfl (pi_list (pe_fld (pv 0) rfl)) (pg_name (i := 2) scRows.nd rfl (Or.inl rfl))
        (pss_one (ps_expr (pe_bm PySem.F.plainAttrs_list PySem.F.slot_list_extend PySem.F.type_list_extend mt_extend (pv 1) (pa_cons (pv 2) pa_nil)))))
      (pss_one (ps_ret (pv 1)))), ?_⟩
    refine ⟨by show 0 ≤ sizeLine; decide, fun l hl => ?_⟩
    have s1 : Same H (upd H l (.lst [])) := Same.upd_new hl
    refine ⟨_, rfl, o, C, dx, _, _, rfl, s1 _ _ ho, T.cl, T.nB, oflds_blocks _ _, bl, rfl, ⟨_, SqL.of (s1 _ _ hbl)⟩, for_list (K := K) (a := bl) (xs := bas.map V.ref)
      (fun i σ H2 => ∃ v, σ = [some (.ref o), some (.ref l), v] ∧ Same H H2 ∧ LstAt H2 l (B.take i).flatten) ⟨none, rfl, s1, [], upd_same, .nil⟩ (fun i σ H2 _ ⟨_, _, s2, _⟩ => SqL.of (s2 _ _ hbl)) ?_ ?_⟩
    · rintro i x σ H2 hi ⟨v, rfl, s2, as, hl2, hR2⟩
      rw [List.getElem?_map] at hi
      cases e : bas[i]? with
      | none => rw [e] at hi; cases hi
      | some ab =>
        rw [e] at hi
        obtain rfl : V.ref ab = x := Option.some.inj hi
        have hiB : i < B.length := by rw [← hlen]; exact (List.getElem?_eq_some_iff.mp e).1
        obtain ⟨b, hb⟩ : ∃ b, B[i]? = some b := ⟨_, List.getElem?_eq_getElem hiB⟩
        obtain ⟨ab', e', bs, hbs', hRb⟩ := paired_get hbs hb
        rw [e] at e'
        obtain rfl : ab = ab' := Option.some.inj e'
        have hll : l ≠ ab := (ne_of_none hbs' hl).symm
        have hl2' := hR2.len
        have hlb := hRb.len
        have q1 := flat_len (B := B) (i + 1)
        rw [List.take_add_one, hb, List.flatten_append] at q1
        simp only [Option.toList_some, List.flatten_cons, List.flatten_nil, List.append_nil, List.length_append] at q1
        refine ⟨_, rfl, .inl ⟨rfl, _, SqL.of hl2⟩, _, rfl, l, ab, _, _, rfl, rfl, hl2, s2 _ _ hbs', ?_, ?_⟩
        · rw [List.length_map, List.length_map]
          exact Nat.le_of_lt (Nat.lt_of_lt_of_le (m := 10001) (by omega) (by decide))
        · refine ⟨_, rfl, fun c u hc => ?_, as ++ bs, by rw [List.map_append]; exact upd_same, ?_⟩
          · rw [upd_ne (ne_of_none hc hl)]
            exact s2 _ _ hc
          · rw [List.take_add_one, hb, List.flatten_append]
            simp only [Option.toList_some, List.flatten_cons, List.flatten_nil, List.append_nil]
            exact (RowsAt.app hR2 (hRb.same fun b xs q => s2 _ _ q)).same (NoTup.keep (NoTup.lst hl2))
    · rintro σ H2 ⟨v, rfl, s2, h2⟩
      rw [List.length_map, hlen, List.take_of_length_le (Nat.le_refl _)] at h2
      exact ⟨_, rfl, fin l H2 hl s2 h2⟩
/-! ### ahead_of -/
def spAhead (C : Addr) : Sp := fun vs H Q _ => ∃ (w : Bool) (o bl a : Addr) (bas : List Addr) (B : List (List Row)) (ρ : Row), vs = [.ref o, .ref a] ∧ OrdAt C w H o bl bas B ∧ RowAt H a ρ ∧ GoodB w B ∧ B.flatten.length < 10000 ∧
  ∀ (H' : Hp), Same H H' → Q (.int ((B.flatten.filter fun x => ltR w x ρ).length : Nat)) H'
theorem scAhead : FnScope ["self", "row", "key", "place", "ahead"] ["self", "row"] (defScope sAhead) := ⟨rfl, rfl, rfl, by decide +kernel, rfl, by decide +kernel, by decide +kernel⟩
theorem map_sum_cast (l : List Nat) : (l.map fun n : Nat => (n : Int)).sum = ((l.sum : Nat) : Int) := by
  induction l with
  | nil => rfl
  | cons a r ih => simp only [List.map_cons, List.sum_cons, ih]; omega
theorem ok_ahead {f fK fBA fRA C : Addr} {fd fdK fdBA fdRA : FuncData} (F : Fun K "ahead_of" "Order.ahead_of" sAhead f fd) (T : Txt K mg C) (gK : Gf K mg "key_of" fK fdK ["word", "row"]) (GK : FnOk P w K mg base CX0 2 fK fdK ["word", "row"] spKey)
    (mBA : Mf K C "blocks_ahead" fBA fdBA ["self", "key"]) (GBA : FnOk P w K mg base CX0 3 fBA fdBA ["self", "key"] (spBA C)) (mRA : Mf K C "rows_ahead" fRA fdRA ["self", "block", "key"]) (GRA : FnOk P w K mg base CX0 3 fRA fdRA ["self", "block", "key"] (spRA C)) :
    FnOk P w K mg base CX0 4 f fd ["self", "row"] (spAhead C) := by
  refine F.ok scAhead (fun vs H Q E h => ?_) (fun cdv A outer s H vs Q E hr h => ?_)
  · obtain ⟨w, o, bl, a, bas, B, ρ, rfl, _⟩ := h
    rfl
  · obtain ⟨w, o, bl, a, bas, B, ρ, rfl, O, ha, G, hsz, fin⟩ := h
    obtain ⟨⟨dx, ho⟩, hbl, hbs, hnd⟩ := id O
    have hr2 : Room 2 _ := hr.mono (by decide)
    have hlen : bas.length = B.length := Paired.length hbs
    refine ⟨_, pss_cons (ps_set (i := 2) scAhead.nd rfl (Or.inl rfl) (pe_call GK hr2 rfl gK.mg gK.kp gK.b .nil pass0 (pa_cons (pe_fld (pv 0) rfl) (pa_cons (pv 1) pa_nil))))
      (pss_cons (ps_set (i := 3) scAhead.nd rfl (Or.inl rfl) (pe_meth (pv 0) T.cl mBA.m GBA hr mBA.b .nil pass0 (pa_cons (pv 2) pa_nil)))
      (pss_cons (ps_set (i := 4) scAhead.nd rfl (Or.inl rfl) (pe_callB (call_sumI rfl) (by rfl) T.sum PyProof.Rows.boot_sum (pa_cons (pe_comp (x := "block") (fns := []) (js := []) rfl
          ⟨rfl, by decide +kernel, by decide +kernel, rfl, by decide +kernel, by simp, rfl, by simp, rfl, by decide +kernel⟩ (pi_list (pe_slice sl_list (pe_fld (pv 0) rfl) po_none (po_some (pv 3)))) (fun _ _ _ _ => pifs_nil)
          (fun _ _ _ _ => pe_callB (call_lenK K) (by rfl) T.len PySem.boot_len (pa_cons (pv 0) pa_nil))) pa_nil)))
      (pss_cons (ps_if (pt_cmpR op_lt (pv 3) (pe_callB call_len_seq (by rfl) T.len PySem.boot_len (pa_cons (pe_fld (pv 0) rfl) pa_nil)) (nomark _))
        (pss_one (ps_set (i := 4) scAhead.nd rfl (Or.inl rfl) (pe_op op_add (pv 4) (pe_meth (pv 0) T.cl mRA.m GRA hr mRA.b .nil pass0 (pa_cons (pe_ix ix_list (pe_fld (pv 0) rfl) (pv 3) (fun _ _ => rfl)) (pa_cons (pv 2) pa_nil)))))) pss_nil)
      (pss_one (ps_ret (pv 4)))))), ?_⟩
    refine ⟨_, rfl, o, C, dx, _, _, rfl, ho, T.cl, T.nW, oflds_word _ _, _, rfl, w, a, ρ, rfl, ha, fun k hk => ?_⟩
    have s1 : Same H (upd H k (.tup (keyV w ρ))) := Same.upd_new hk
    refine ⟨_, rfl, o, dx, _, rfl, s1 _ _ ho, oflds_no _ _ (by decide +kernel) (by decide +kernel), _, rfl, w, o, bl, k, bas, B, keyV w ρ, rfl, O.same s1, upd_same, fun ρ' => key_alike w ρ' ρ, G.srt, G.ne, fun B₁ B₂ H2 s2 eB hB1 hB2 => ?_⟩
    have s12 : Same H H2 := s1.trans s2
    have hB1l : B₁.length ≤ bas.length := by rw [hlen, eB, List.length_append]; omega
    refine ⟨_, rfl, o, C, dx, _, _, rfl, s12 _ _ ho, T.cl, T.nB, oflds_blocks _ _, _, rfl, _, rfl, bl, _, rfl, SqL.of (s12 _ _ hbl), fun c1 f1 => ?_⟩
    rw [cut_take (by rw [List.length_map]; exact hB1l), ← List.map_take]
    refine ⟨c1, rfl, ⟨_, SqL.of upd_same⟩, fun D fD => ?_⟩
    have hcD : c1 ≠ D := ne_of_none upd_same fD
    have fD2 : H2 D = none := by rw [upd_ne hcD.symm] at fD; exact fD
    refine comp_list (K := K) (xs := (bas.take B₁.length).map V.ref)
      (fun i ys H3 => Same H2 H3 ∧ H3 c1 = some (.lst ((bas.take B₁.length).map V.ref)) ∧ ys = ((B.take i).map fun b => V.int b.length)) ?_ ?_ ?_ ?_
    · refine ⟨(Same.upd_new f1).trans (Same.upd_new fD), ?_, by simp⟩
      rw [upd_ne hcD]
      exact upd_same
    · rintro i ys H3 _ _ ⟨_, h, _⟩
      exact SqL.of h
    · rintro i v ys H3 hi hD ⟨s3, hc, rfl⟩
      rw [List.getElem?_map] at hi
      cases e : (bas.take B₁.length)[i]? with
      | none => rw [e] at hi; cases hi
      | some ab =>
        rw [e] at hi
        obtain rfl : V.ref ab = v := Option.some.inj hi
        have hil := (List.getElem?_eq_some_iff.mp e).1
        rw [List.length_take] at hil
        have e0 : bas[i]? = some ab := by rw [List.getElem?_take_of_lt (by omega)] at e; exact e
        obtain ⟨b, hb⟩ : ∃ b, B[i]? = some b := ⟨_, List.getElem?_eq_getElem (by omega)⟩
        obtain ⟨ab', e', bs, hbs', hRb⟩ := paired_get hbs hb
        rw [e0] at e'
        obtain rfl : ab = ab' := Option.some.inj e'
        have hlb := hRb.len
        refine ⟨_, rfl, ab, _, rfl, .inl (SqL.of (s3 _ _ (s12 _ _ hbs'))), hD, ?_, fun c u h => ?_, ?_, ?_⟩
        · have := G.len
          rw [List.length_map, List.length_take]
          exact Nat.lt_of_lt_of_le (m := 10000) (by omega) (by decide)
        · rw [upd_ne (ne_of_none h fD2)]
          exact s3 _ _ h
        · rw [upd_ne hcD]
          exact hc
        · rw [List.take_add_one, hb, List.map_append, List.length_map, hlb]
          rfl
    · rintro ys H3 hD ⟨s3, hc, rfl⟩
      have hl' : ((bas.take B₁.length).map V.ref).length = B₁.length := by rw [List.length_map, List.length_take]; omega
      rw [hl'] at hD
      have eT : B.take B₁.length = B₁ := by rw [eB]; exact (cut_at rfl).1
      rw [eT] at hD
      have s13 : Same H H3 := s12.trans s3
      refine ⟨D, B₁.map fun b => (b.length : Int), rfl, SqL.of (by rw [List.map_map]; exact hD), ?_⟩
      have esum : (B₁.map fun b => (b.length : Int)).sum = (((B₁.map List.length).sum : Nat) : Int) := by
        rw [← map_sum_cast, List.map_map]; rfl
      rw [esum]
      refine ⟨_, rfl, _, rfl, o, C, dx, _, _, rfl, s13 _ _ ho, T.cl, T.nB, oflds_blocks _ _, bl, _, rfl, .inl (SqL.of (s13 _ _ hbl)), _, _, rfl, rfl, _, rfl, ?_⟩
      have hBs := G.srt
      cases B₂ with
      | nil =>
        rw [List.append_nil] at eB
        subst eB
        refine ite2 (fun c => ?_) (fun c => ?_)
        · have := of_decide_eq_true c
          rw [List.length_map, hlen] at this
          omega
        · refine ⟨_, rfl, ?_⟩
          rw [← count_blocks_end (P := fun x => ltR w x ρ) (ahead_all (P := fun x => ltR w x ρ) (down_key w (keyV w ρ)) hBs fun c hc => lastLt_ex (hB1 c hc))]
          exact fin H3 s13
      | cons b B₂ =>
        subst eB
        have hpl := place_of hBs hB1 (hB2 b (List.mem_cons_self ..)) (G.ne b (by simp))
        obtain ⟨l₁, ab, l₂, rfl, hp1, hab0, hp2⟩ := paired_split hbs
        obtain ⟨as, hab, hRb⟩ := id hab0
        have hl1 : l₁.length = B₁.length := Paired.length hp1
        have gb : ((l₁ ++ ab :: l₂).map V.ref)[B₁.length]? = some (V.ref ab) := by rw [List.getElem?_map, ← hl1, get_mid]; rfl
        refine ite2 (fun c => ?_) (fun c => ?_)
        · refine ⟨_, rfl, _, rfl, o, dx, _, rfl, s13 _ _ ho, oflds_no _ _ (by decide +kernel) (by decide +kernel), _, rfl, o, C, dx, _, _, rfl, s13 _ _ ho, T.cl, T.nB, oflds_blocks _ _, _, rfl, bl, _, _, _, rfl, rfl, SqL.of (s13 _ _ hbl), atI_nat gb, _, rfl, w, o, bl, dx, ab, k, b, keyV w ρ, rfl, s13 _ _ ho, hab0.sameS s13, s3 _ _ (s2 _ _ upd_same), fun ρ' => key_alike w ρ' ρ, fun H4 s4 => ?_⟩
          refine ⟨_, _, rfl, rfl, _, rfl, ?_⟩
          have ec := count_blocks (P := fun x => ltR w x ρ) (down_key w (keyV w ρ)) hBs hpl.1 hpl.2
          have := fin H4 (s13.trans s4)
          rw [ec] at this
          exact this
        · exact absurd (decide_eq_true (by rw [List.length_map]; simp [hl1]; omega)) c
end
end K1

set_option linter.all false
set_option maxRecDepth 100000
set_option maxHeartbeats 4000000
namespace K1
open PySem L2 TO
/-- between: what is asked of a row -/
def btw (w : Bool) (lo hi : V) (x : Row) : Bool := !ltV (lead w x) lo && !ltV hi (lead w x)
theorem ltV_le {a b c : V} (h : ltV a b = true) (hbc : alikeV b c = true) (h2 : ltV c b = false) : ltV a c = true := by
  by_cases e : b = c
  · rw [← e]; exact h
  · have : alikeV c b = true := by
      cases b <;> cases c <;> first | rfl | cases hbc
    exact ltV_trans h (ltV_tri this h2 (fun q => e q.symm))
theorem hi_rest {w : Bool} {lo hi : V} {x : Row} {t : List Row} (hs : Srt (ltR w) (x :: t)) (h : ltV hi (lead w x) = true) : (x :: t).filter (btw w lo hi) = [] := by
  rw [List.filter_eq_nil_iff]
  intro y hy
  have : ltV hi (lead w y) = true := by
    rcases List.mem_cons.mp hy with e | e
    · rw [e]; exact h
    · exact ltV_le h (lead_alike w x y) (ltR_lead ((List.pairwise_cons.mp hs).1 y e))
  simp [btw, this]
theorem lo_none {w : Bool} {lo hi : V} {l : List Row} (h : ∀ x ∈ l, ltV (lead w x) lo = true) : l.filter (btw w lo hi) = [] := by
  rw [List.filter_eq_nil_iff]
  intro y hy
  simp [btw, h y hy]
section
variable {P : Program} {w : World} {K : PySem.W.Frag} {mg : Str → Option Value} {base : Heap}
def spBetw (C : Addr) : Sp := fun vs H Q _ => ∃ (w : Bool) (o bl : Addr) (bas : List Addr) (B : List (List Row)) (lo hi : V), vs = [.ref o, lo, hi] ∧ OrdAt C w H o bl bas B ∧ (∀ ρ, alikeV (lead w ρ) lo = true) ∧ (∀ ρ, alikeV (lead w ρ) hi = true) ∧ GoodB w B ∧ B.flatten.length < 10000 ∧
  ∀ (l : Addr) (H' : Hp), H l = none → Same H H' → LstAt H' l (B.flatten.filter (btw w lo hi)) → Q (.ref l) H'
theorem scBetw : FnScope ["self", "low", "high", "found", "place", "row", "lead"] ["self", "low", "high"] (defScope sBetw) := ⟨rfl, rfl, rfl, by decide +kernel, rfl, by decide +kernel, by decide +kernel⟩
theorem ok_betw {f fL fBA C : Addr} {fd fdL fdBA : FuncData} (F : Fun K "between" "Order.between" sBetw f fd) (T : Txt K mg C) (gL : Gf K mg "lead_of" fL fdL ["word", "row"]) (GL : FnOk P w K mg base CX0 1 fL fdL ["word", "row"] spLead)
    (mBA : Mf K C "blocks_ahead" fBA fdBA ["self", "key"]) (GBA : FnOk P w K mg base CX0 3 fBA fdBA ["self", "key"] (spBA C)) :
    FnOk P w K mg base CX0 4 f fd ["self", "low", "high"] (spBetw C) := by
  refine F.ok scBetw (fun vs H Q E h => ?_) (fun cdv A outer s H vs Q E hr h => ?_)
  · obtain ⟨w, o, bl, bas, B, lo, hi, rfl, _⟩ := h
    rfl
  · obtain ⟨w, o, bl, bas, B, lo, hi, rfl, O, alo, ahi, G, hsz, fin⟩ := h
    obtain ⟨⟨dx, ho⟩, hbl, hbs, hnd⟩ := id O
    have hr1 : Room 1 _ := hr.mono (by decide)
    have hlen : bas.length = B.length := Paired.length hbs
    refine ⟨_, pss_cons (ps_set (i := 3) scBetw.nd rfl (Or.inl rfl) (pe_lst pa_nil))
      (pss_cons (ps_set (i := 4) scBetw.nd rfl (Or.inl rfl) (pe_meth (pv 0) T.cl mBA.m GBA hr mBA.b .nil pass0 (pa_cons (pe_tup (pa_cons (pv 1) pa_nil)) pa_nil)))
      (pss_cons (ps_while PassesOwn.never (pt_cmpR op_lt (pv 4) (pe_callB call_len_seq (by rfl) T.len PySem.boot_len (pa_cons (pe_fld (pv 0) rfl) pa_nil)) (nomark _))
        (pss_cons (ps_for PassesOwn.never rfl (pi_list (pe_ix ix_list (pe_fld (pv 0) rfl) (pv 4) (fun _ _ => rfl))) (pg_name (i := 5) scBetw.nd rfl (Or.inl rfl))
          (pss_cons (ps_set (i := 6) scBetw.nd rfl (Or.inl rfl) (pe_call GL hr1 rfl gL.mg gL.kp gL.b .nil pass0 (pa_cons (pe_fld (pv 0) rfl) (pa_cons (pv 5) pa_nil))))
          (pss_cons (ps_if (pt_cmpR op_gtV (pv 6) (pv 2) (nomark _)) (pss_one (ps_ret (pv 3))) pss_nil)
          (pss_one (ps_if (pt_cmpR op_geV (pv 6) (pv 1) (nomark _)) (pss_one (ps_expr (pe_bm PySem.F.plainAttrs_list PySem.F.slot_list_append PySem.F.type_list_append mt_append (pv 3) (pa_cons (pv 5) pa_nil)))) pss_nil)))))
        (pss_one (ps_set (i := 4) scBetw.nd rfl (Or.inl rfl) (pe_op op_add (pv 4) pe_int)))))
      (pss_one (ps_ret (pv 3))))), ?_⟩
    refine ⟨by show 0 ≤ sizeLine; decide, fun l hl => ?_⟩
    have s1 : Same H (upd H l (.lst [])) := Same.upd_new hl
    refine ⟨_, rfl, o, dx, _, rfl, s1 _ _ ho, oflds_no _ _ (by decide +kernel) (by decide +kernel), _, rfl, by show 1 ≤ sizeLine; decide, fun k hk => ?_⟩
    have hlk : l ≠ k := ne_of_none upd_same hk
    have s2 : Same (upd H l (.lst [])) (upd (upd H l (.lst [])) k (.tup [lo])) := Same.upd_new hk
    refine ⟨w, o, bl, k, bas, B, [lo], rfl, (O.same s1).same s2, upd_same, fun ρ => ⟨alo ρ, trivial⟩, G.srt, G.ne, fun B₁ B₂ H2 s3 eB hB1 hB2 => ?_⟩
    have s02 : Same H H2 := (s1.trans s2).trans s3
    have hl2 : H2 l = some (.lst []) := s3 _ _ (s2 _ _ upd_same)
    refine ⟨fun m σ H3 => ∃ (i : Nat) (v1 v2 : Option V), σ = [some (.ref o), some lo, some hi, some (.ref l), some (.int i), v1, v2] ∧ Same H H3 ∧ i ≤ B.length ∧ m = B.length - i ∧ LstAt H3 l ((B.take i).flatten.filter (btw w lo hi)),
      ⟨_, B₁.length, none, none, rfl, s02, by rw [eB, List.length_append]; omega, rfl, [], hl2, ?_⟩, ?_⟩
    · have : B.take B₁.length = B₁ := by rw [eB]; exact (cut_at rfl).1
      rw [this]
      have hs := G.srt
      rw [eB, List.flatten_append, Srt.app] at hs
      have ha := ahead_all (P := fun y => lexV (keyV w y) [lo]) (down_key w [lo]) hs.1 fun c hc => lastLt_ex (hB1 c hc)
      rw [lo_none fun x hx => by rw [← lex_lead]; exact ha x hx]
      exact .nil
    rintro m σ H3 ⟨i, v1, v2, rfl, s3, hi', rfl, hL⟩
    refine ⟨_, rfl, _, rfl, o, C, dx, _, _, rfl, s3 _ _ ho, T.cl, T.nB, oflds_blocks _ _, bl, _, rfl, .inl (SqL.of (s3 _ _ hbl)), _, _, rfl, rfl, _, rfl, ?_⟩
    refine ite2 (fun c => ?_) (fun c => ?_)
    · have hiB : i < B.length := by
        have := of_decide_eq_true c
        rw [List.length_map, hlen] at this
        omega
      obtain ⟨b, hb⟩ : ∃ b, B[i]? = some b := ⟨_, List.getElem?_eq_getElem hiB⟩
      obtain ⟨ab, e, bs, hab, hRb⟩ := paired_get hbs hb
      obtain ⟨C₁, C₂, eC, lC⟩ := split_at hb
      have gb : (bas.map V.ref)[i]? = some (V.ref ab) := by rw [List.getElem?_map, e]; rfl
      have eT : B.take i = C₁ := by rw [eC, ← lC]; exact (cut_at rfl).1
      have eT1 : (B.take (i + 1)).flatten = C₁.flatten ++ b := by rw [List.take_add_one, hb, eT]; simp
      refine ⟨fun σ' H' => ∃ (v1 v2 : Option V), σ' = [some (.ref o), some lo, some hi, some (.ref l), some (.int (i + 1 : Nat)), v1, v2] ∧ Same H H' ∧ LstAt H' l ((B.take (i + 1)).flatten.filter (btw w lo hi)), ?_, ?_⟩
      · rintro σ' H' ⟨v1, v2, h1, h2, h3⟩
        exact ⟨B.length - (i + 1), by omega, i + 1, v1, v2, h1, h2, hiB, rfl, h3⟩
      rw [eT] at hL
      have hlen' := flat_len (B := B) (i + 1)
      rw [eT1, List.length_append] at hlen'
      refine ⟨_, rfl, o, C, dx, _, _, rfl, s3 _ _ ho, T.cl, T.nB, oflds_blocks _ _, _, rfl, bl, _, _, _, rfl, rfl, SqL.of (s3 _ _ hbl), atI_nat gb, ab, rfl, ⟨_, SqL.of (s3 _ _ hab)⟩, for_list (K := K) (a := ab) (xs := bs.map V.ref)
        (fun j σ H4 => ∃ (v1 v2 : Option V), σ = [some (.ref o), some lo, some hi, some (.ref l), some (.int i), v1, v2] ∧ Same H H4 ∧ LstAt H4 l ((C₁.flatten ++ b.take j).filter (btw w lo hi))) ⟨v1, v2, rfl, s3, by simpa using hL⟩ (fun j σ H4 _ ⟨_, _, _, s4, _⟩ => SqL.of (s4 _ _ hab)) ?_ ?_⟩
      · rintro j x σ H4 hj ⟨u1, u2, rfl, s4, as, hl4, hR4⟩
        rw [List.getElem?_map] at hj
        cases ej : bs[j]? with
        | none => rw [ej] at hj; cases hj
        | some r =>
          rw [ej] at hj
          obtain rfl : V.ref r = x := Option.some.inj hj
          obtain ⟨ρ, hρ, hr'⟩ := hRb.get' ej
          have hla := hR4.len
          refine ⟨_, rfl, o, C, dx, _, _, rfl, s4 _ _ ho, T.cl, T.nW, oflds_word _ _, _, rfl, w, r, ρ, rfl, s4 _ _ hr', ?_⟩
          refine ⟨_, rfl, _, rfl, ahi ρ, _, rfl, ?_⟩
          refine ite2 (fun c1 => ?_) (fun c1 => ?_)
          · -- behind the last
            refine ⟨_, rfl, fin l H4 hl s4 ⟨as, hl4, ?_⟩⟩
            have hs := G.srt
            obtain ⟨b₁, b₂, eb, lb⟩ := split_at hρ
            have etb : b.take j = b₁ := by rw [eb, ← lb]; exact (cut_at rfl).1
            have eall : B.flatten = (C₁.flatten ++ b₁) ++ (ρ :: (b₂ ++ C₂.flatten)) := by rw [eC, eb]; simp
            rw [eall, Srt.app] at hs
            rw [eall, List.filter_append, hi_rest hs.2.1 c1, List.append_nil, ← etb]
            exact hR4
          · refine ⟨_, rfl, _, rfl, alo ρ, _, rfl, ?_⟩
            have c1' : ltV hi (lead w ρ) = false := by simpa using c1
            have etb : b.take (j + 1) = b.take j ++ [ρ] := by rw [List.take_add_one, hρ]; rfl
            refine ite2 (fun c2 => ?_) (fun c2 => ?_)
            · refine ⟨_, rfl, .inl ⟨rfl, _, SqL.of hl4⟩, _, rfl, l, _, _, rfl, rfl, hl4, ?_, ?_⟩
              · rw [List.length_map, hla]
                refine Nat.lt_of_le_of_lt (List.length_filter_le _ _) ?_
                rw [List.length_append, List.length_take]
                exact Nat.lt_of_lt_of_le (m := 10000) (by omega) (by decide)
              · refine ⟨_, _, rfl, fun d u hd => ?_, as ++ [r], by rw [List.map_append]; exact upd_same, ?_⟩
                · rw [upd_ne (ne_of_none hd hl)]
                  exact s4 _ _ hd
                · have c2' : ltV (lead w ρ) lo = false := by simpa using c2
                  rw [etb, ← List.append_assoc, List.filter_append, List.filter_cons]
                  have : btw w lo hi ρ = true := by simp [btw, c1', c2']
                  rw [if_pos this]
                  exact (RowsAt.app hR4 (.cons (s4 _ _ hr') .nil)).same (NoTup.keep (NoTup.lst hl4))
            · refine ⟨_, _, rfl, s4, as, hl4, ?_⟩
              have c2' : ltV (lead w ρ) lo = true := by simpa using c2
              rw [etb, ← List.append_assoc, List.filter_append, List.filter_cons]
              have : ¬ btw w lo hi ρ = true := by simp [btw, c2']
              rw [if_neg this]
              simpa using hR4
      · rintro σ H4 ⟨u1, u2, rfl, s4, h4⟩
        have hlb := hRb.len
        rw [List.length_map, hlb, List.take_of_length_le (Nat.le_refl _)] at h4
        refine ⟨_, rfl, _, _, rfl, rfl, _, _, rfl, s4, ?_⟩
        rw [eT1]
        exact h4
    · have hiB : i = B.length := by
        have : ¬ ((i : Int) < _) := fun z => c (decide_eq_true z)
        rw [List.length_map, hlen] at this
        omega
      refine ⟨_, rfl, fin l H3 hl s3 ?_⟩
      rw [hiB, List.take_of_length_le (Nat.le_refl _)] at hL
      exact hL
/-! ### Order(word), order_with -/
def spInit (C : Addr) : Sp := fun vs H Q _ => ∃ (w : Bool) (p dx : Addr), vs = [.ref p, .str (wordS w)] ∧ H p = some (.ins C dx []) ∧ ∀ (bl : Addr) (H' : Hp), H bl = none → OrdAt C w H' p bl [] [] → (∀ b u, H b = some u → b ≠ p → H' b = some u) → Q .non H'
theorem scInit : FnScope ["self", "word"] ["self", "word"] (defScope sInit) := ⟨rfl, rfl, rfl, by decide +kernel, rfl, by decide +kernel, by decide +kernel⟩
theorem ok_init {f fCW C : Addr} {fd fdCW : FuncData} (F : Fun K "__init__" "Order.__init__" sInit f fd) (T : Txt K mg C) (gCW : Gf K mg "check_word" fCW fdCW ["word"]) (GCW : FnOk P w K mg base CX0 1 fCW fdCW ["word"] spCW) : FnOk P w K mg base CX0 2 f fd ["self", "word"] (spInit C) := by
  refine F.ok scInit (fun vs H Q E h => ?_) (fun cdv A outer s H vs Q E hr h => ?_)
  · obtain ⟨w, p, dx, rfl, _⟩ := h
    rfl
  · obtain ⟨w, p, dx, rfl, hp, fin⟩ := h
    refine ⟨_, pss_cons (ps_expr (pe_call GCW hr rfl gCW.mg gCW.kp gCW.b .nil pass0 (pa_cons (pv 1) pa_nil)))
      (pss_cons (ps_fld (pv 0) (pv 1) rfl) (pss_one (ps_fld (pv 0) (pe_lst pa_nil) rfl))), ?_⟩
    refine ⟨_, rfl, w, rfl, ?_⟩
    refine ⟨_, rfl, _, rfl, p, C, dx, _, rfl, hp, T.cl, T.nW, (by show 0 < 1000; decide), ?_⟩
    refine ⟨by show 0 ≤ sizeLine; decide, fun bl hbl => ?_⟩
    have n1 : p ≠ bl := ne_of_none upd_same hbl
    have hbl' : H bl = none := by rw [upd_ne n1.symm] at hbl; exact hbl
    refine ⟨_, rfl, p, C, dx, _, rfl, (by rw [upd_ne n1]; exact upd_same), T.cl, T.nB, (by show 1 < 1000; decide), ?_⟩
    refine fin bl _ hbl' ⟨⟨dx, upd_same⟩, by rw [upd_ne n1.symm]; exact upd_same, .nil, by simp⟩ fun b u hb hn => ?_
    rw [upd_ne hn, upd_ne (ne_of_none hb hbl'), upd_ne hn]
    exact hb
def spWith (C : Addr) : Sp := fun vs H Q _ => ∃ (w : Bool) (r : Addr) (ρs : List Row), vs = [.str (wordS w), .ref r] ∧ LstAt H r ρs ∧ (ρs.map (·.n)).Nodup ∧ ρs.length < 10000 ∧
  ∀ (o bl : Addr) (bas : List Addr) (B : List (List Row)) (H' : Hp), H o = none → (∀ b ∈ bl :: bas, H b = none) → OrdAt C w H' o bl bas B → GoodB w B → B.flatten.Perm ρs → Same H H' → Q (.ref o) H'
theorem scWith : FnScope ["word", "rows", "order", "row"] ["word", "rows"] (defScope sWith) := ⟨rfl, rfl, rfl, by decide +kernel, rfl, by decide +kernel, by decide +kernel⟩
theorem ok_with {f fI fT C : Addr} {fd fdI fdT : FuncData} (F : Fun K "order_with" "order_with" sWith f fd) (T : Txt K mg C) (M : Mk K C fI) (bI : Binds K fdI ["self", "word"] []) (GI : FnOk P w K mg base CX0 2 fI fdI ["self", "word"] (spInit C))
    (mT : Mf K C "take_in" fT fdT ["self", "row"]) (GT : FnOk P w K mg base CX0 4 fT fdT ["self", "row"] (spTake C)) : FnOk P w K mg base CX0 5 f fd ["word", "rows"] (spWith C) := by
  refine F.ok scWith (fun vs H Q E h => ?_) (fun cdv A outer s H vs Q E hr h => ?_)
  · obtain ⟨w, r, ρs, rfl, _⟩ := h
    rfl
  · obtain ⟨w, r, ρs, rfl, ⟨as, hrl, hR⟩, hnd, hsz, fin⟩ := h
    have hr3 : Room 3 _ := hr.mono (by decide)
    refine ⟨_, pss_cons (ps_set (i := 2) scWith.nd rfl (Or.inl rfl) (pe_make M GI hr3 rfl T.mgC bI .nil pass0 (pa_cons (pv 0) pa_nil)))
      (pss_cons (ps_for PassesOwn.never rfl (pi_list (pv 1)) (pg_name (i := 3) scWith.nd rfl (Or.inl rfl)) (pss_one (ps_expr (pe_meth (pv 2) T.cl mT.m GT hr mT.b .nil pass0 (pa_cons (pv 3) pa_nil)))))
      (pss_one (ps_ret (pv 2)))), ?_⟩
    refine ⟨_, rfl, fun o dx no ndx nex => ?_⟩
    refine ⟨w, o, dx, rfl, upd_same, fun bl H1 hbl O1 k1 => ⟨rfl, ?_⟩⟩
    have s1 : Same H H1 := fun b u hb => k1 b u (by rw [upd_ne (ne_of_none hb no), upd_ne (ne_of_none hb ndx)]; exact hb) (ne_of_none hb no)
    have hbl0 : H bl = none := by
      cases e : H bl with
      | none => rfl
      | some u => rw [upd_ne (ne_of_none e no), upd_ne (ne_of_none e ndx), e] at hbl; cases hbl
    have hlen := hR.len
    refine ⟨_, rfl, r, rfl, ⟨_, SqL.of (s1 _ _ hrl)⟩, for_list (K := K) (a := r) (xs := as.map V.ref)
      (fun i σ H2 => ∃ (bas : List Addr) (B : List (List Row)) (v : Option V), σ = [some (.str (wordS w)), some (.ref r), some (.ref o), v] ∧ Same H H2 ∧ OrdAt C w H2 o bl bas B ∧ GoodB w B ∧ B.flatten.Perm (ρs.take i) ∧ ∀ b ∈ bl :: bas, H b = none)
      ⟨[], [], none, rfl, s1, O1, ⟨by simp [Adj], by simp⟩, by simp, fun b hb => by simp at hb; rw [hb]; exact hbl0⟩ (fun i σ H2 _ ⟨_, _, _, _, s2, _⟩ => SqL.of (s2 _ _ hrl)) ?_ ?_⟩
    · rintro i x σ H2 hi ⟨bas, B, v, rfl, s2, O2, G2, p2, f2⟩
      rw [List.getElem?_map] at hi
      cases e : as[i]? with
      | none => rw [e] at hi; cases hi
      | some a =>
        rw [e] at hi
        obtain rfl : V.ref a = x := Option.some.inj hi
        obtain ⟨ρ, hρ, ha⟩ := hR.get' e
        obtain ⟨⟨dx2, ho2⟩, _⟩ := id O2
        have hil := (List.getElem?_eq_some_iff.mp hρ).1
        have hl2 : B.flatten.length = i := by rw [p2.length_eq, List.length_take]; omega
        refine ⟨_, rfl, o, dx2, _, rfl, ho2, oflds_no _ _ (by decide +kernel) (by decide +kernel), _, rfl, w, o, bl, a, bas, B, ρ, rfl, O2, s2 _ _ ha, G2, fun y hy e2 => ?_, by omega, fun bas' B' H3 O3 G3 p3 S3 => ?_⟩
        · have hy' := p2.mem_iff.mp hy
          obtain ⟨ρ₁, ρ₂, eρ, lρ⟩ := split_at hρ
          have et : ρs.take i = ρ₁ := by rw [eρ, ← lρ]; exact (cut_at rfl).1
          rw [et] at hy'
          rw [eρ, List.map_append, List.map_cons, List.nodup_append] at hnd
          exact hnd.2.2 y.n (List.mem_map.mpr ⟨y, hy', rfl⟩) ρ.n (List.mem_cons_self ..) e2
        · refine ⟨bas', B', _, rfl, fun b u hb => S3.keep b u (s2 _ _ hb) fun z => ?_, O3, G3, ?_, fun b hb => ?_⟩
          · rw [f2 b z] at hb; cases hb
          · rw [List.take_add_one, hρ]
            refine p3.trans ?_
            exact ((List.Perm.cons ρ p2).trans (List.perm_append_singleton ρ _).symm)
          · rcases S3.new b hb with q | q
            · exact f2 b q
            · cases e3 : H b with
              | none => rfl
              | some u => rw [s2 _ _ e3] at q; cases q
    · rintro σ H2 ⟨bas, B, v, rfl, s2, O2, G2, p2, f2⟩
      rw [List.length_map, hlen, List.take_of_length_le (Nat.le_refl _)] at p2
      exact ⟨_, rfl, fin o bl bas B H2 no f2 O2 G2 p2 s2⟩
end
end K1

set_option linter.all false
set_option maxRecDepth 100000
set_option maxHeartbeats 4000000
namespace L2
open PySem PySem.Spec PyProof.Rows
/-! ### isinstance -/
section
variable {X : Cx}
theorem call_isi : CallR X (.builtin "isinstance") (fun xs H Q => ∃ x n t b, xs = [x, .ty n] ∧ TyOf X.K H x t ∧ PySem.W.kitOne X.K t (.type n) = some b ∧ Q (.bl b) H) := by
  intro pins s σ H xs us Q I rv h
  obtain ⟨x, n, t, b, rfl, ty, e, q⟩ := h
  obtain ⟨u, v, rfl, ru, rc⟩ := rv.two
  cases rc
  exact isinst_ok I ru ty e fun tk => ⟨.bl b, H, I.tok tk, rfl, q⟩
example (K : PySem.W.Frag) : PySem.W.kitOne K (.type "int") (.type "bool") = some false := by rfl
example (K : PySem.W.Frag) : PySem.W.kitOne K (.type "int") (.type "int") = some true := by rfl
example (K : PySem.W.Frag) : PySem.W.kitAny K (.type "int") [.type "list", .type "tuple"] = some false := by rfl
/-- of a tuple of classes: the kinds that are asked here -/
theorem call_isiT : CallR X (.builtin "isinstance") (fun xs H Q => ∃ x tp, ∃ ns : List String, ∃ t b, xs = [x, .ref tp] ∧ TyOf X.K H x (.type t) ∧ (t = "int" ∨ t = "str" ∨ t = "list" ∨ t = "tuple") ∧ H tp = some (.tup (ns.map V.ty)) ∧ PySem.W.kitAny X.K (.type t) (ns.map Value.type) = some b ∧ Q (.bl b) H) := by
  intro pins s σ H xs us Q I rv h
  obtain ⟨x, tp, ns, t, b, rfl, ty, ht, hH, e, q⟩ := h
  obtain ⟨u, v, rfl, ru, rc⟩ := rv.two
  cases rc
  obtain ⟨z2, its2, r2, ⟨cls2, dd2, data2, sl2⟩, ho2, hc2, n2, hd2⟩ := I.hok tp _ hH
  simp only at hc2 hd2
  subst hc2 hd2
  have e2 : its2 = ns.map Value.type := by
    clear ho2 e hH z2
    induction ns generalizing its2 with
    | nil => cases r2; rfl
    | cons n r ih =>
      cases r2 with
      | cons h t => rw [List.map_cons, ← ih _ t]; cases h; rfl
  subst e2
  cases ty with
  | non => rcases ht with h | h | h | h <;> exact absurd h (by decide)
  | bl y => rcases ht with h | h | h | h <;> exact absurd h (by decide)
  | flt y => rcases ht with h | h | h | h <;> exact absurd h (by decide)
  | dK ea => rcases ht with h | h | h | h <;> exact absurd h (by decide)
  | dT ea => rcases ht with h | h | h | h <;> exact absurd h (by decide)
  | int i => obtain ⟨t, z⟩ := (show ∃ t, u = Value.int i t from ru); cases z; exact PySem.W.kia_tup PySem.W.kitx_int I.kIn True.intro ho2 e (fun z => nomatch z) fun tk => ⟨.bl b, H, I.tok tk, rfl, q⟩
  | str y => obtain ⟨t, z⟩ := (show ∃ t, u = Value.str y t from ru); cases z; exact PySem.W.kia_tup PySem.W.kitx_str I.kIn True.intro ho2 e (fun z => nomatch z) fun tk => ⟨.bl b, H, I.tok tk, rfl, q⟩
  | @lst a xs ea =>
    cases (show u = Value.ref a from ru)
    obtain ⟨_, _, n, _, h1⟩ := (show ObjOk X.prog X.w H s.heap a (.lst xs) from I.hok a _ ea)
    exact PySem.W.kia_tup PySem.W.kitx_list I.kIn ⟨_, h1, rfl⟩ ho2 e (fun z => nomatch z) fun tk => ⟨.bl b, H, I.tok tk, rfl, q⟩
  | @frz a ob xs ea =>
    cases (show u = Value.ref a from ru)
    obtain ⟨_, _, _, n, _, h1⟩ := (show ObjOk X.prog X.w H s.heap a (.frz ob (.lst xs)) from I.hok a _ ea)
    exact PySem.W.kia_tup PySem.W.kitx_list I.kIn ⟨_, h1, rfl⟩ ho2 e (fun z => nomatch z) fun tk => ⟨.bl b, H, I.tok tk, rfl, q⟩
  | @tup a xs ea =>
    cases (show u = Value.ref a from ru)
    obtain ⟨_, _, _, p⟩ := (show ObjOk X.prog X.w H s.heap a (.tup xs) from I.hok a _ ea)
    obtain ⟨o, h1, h2, _⟩ := p
    exact PySem.W.kia_tup PySem.W.kitx_tuple I.kIn ⟨o, h1, h2⟩ ho2 e (fun z => nomatch z) fun tk => ⟨.bl b, H, I.tok tk, rfl, q⟩
end
/-! ### sorted -/
section
variable {prog : Program} {w : World} {A : Around} {E : Value → Shared → Prop} {s : Shared}
theorem sort_short {a : Addr} {vs : List Value} {n : Nat} {P : PySem.Fin → Shared → Prop} (ho : s.heap.get? a = some (seqObj "list" vs.toArray n)) (h2 : vs.length < 2)
    (h : P (.done (.ret .none)) { s with heap := sortedHeap s.heap a vs vs.toArray }) : wpAny (model prog w) A (Builtin.«list.sort» ⟨[.ref a], []⟩) P E s := by
  rw [list_sort_plain]
  have ha : a < s.heap.objs.size := Heap.lt_size ho
  refine wpAny_bind (listItems_at ho rfl ?_)
  refine wpAny_bind (listUpdate_at ho rfl ?_)
  obtain ⟨e1, ho1⟩ : ∃ e1, (s.heap.update a (Obj.mapSeq fun _ => #[])).get? a = some (seqObj "list" #[] e1) := ⟨_, get?_update_seq ho (fun _ => #[])⟩
  refine wpAny_bind (seqEpoch_at ho1 rfl ?_)
  refine wpAny_bind (wpAny_newTuple ?_)
  refine wpAny_bind (wpAny_newList ?_)
  refine wpAny_holding ?_
  have ho6 : (((s.heap.update a (Obj.mapSeq fun _ => #[])).push (seqObj "tuple" vs.toArray 0)).push (seqObj "list" #[] 0)).get? a = some (seqObj "list" #[] e1) := by
    rw [Heap.get?_push_ne _ _ _ (by rw [size_push', Heap.size_update]; exact Nat.ne_of_lt (Nat.lt_succ_of_lt ha)), Heap.get?_push_ne _ _ _ (by rw [Heap.size_update]; exact Nat.ne_of_lt ha)]
    exact ho1
  show wpAny (model prog w) A _ P E { s with heap := ((s.heap.update a (Obj.mapSeq fun _ => #[])).push (seqObj "tuple" vs.toArray 0)).push (seqObj "list" #[] 0) }
  dsimp only
  have h2' : vs.toArray.size < 2 := by simpa using h2
  rw [if_pos h2', if_pos h2']
  refine wpAny_bind (wpAny_pure ?_)
  rw [StateT.run_pure]
  refine wpAny_bind (wpAny_pure ?_)
  dsimp only
  refine wpAny_bind (seqEpoch_at ho6 rfl ?_)
  refine wpAny_bind (listUpdate_at ho6 rfl ?_ (hsz2 := by rw [Array.size_map]; show (pairsOf vs).size ≤ _; rw [pairsOf_size, sizeLine_eq]; omega))
  simp only [bne_self_eq_false, Bool.false_eq_true, if_false]
  have e3 : (arrOf (SortSt.mk' general' (vs.toArray.zip vs.toArray) #[] 7 none)).map (·.2) = vs.toArray := by
    show (vs.toArray.zip vs.toArray).map (·.2) = vs.toArray
    simp [List.map_snd_zip]
  refine wpAny_pure ?_
  have := h
  rw [← e3] at this
  exact this
theorem sorted_short {l : Addr} {vs : List Value} {Q : Value → Shared → Prop} (hl : s.heap.IsList l vs.toArray) (h2 : vs.length < 2)
    (h : Q (.ref (s.heap.objs.size + 1)) { s with heap := sortedAll s.heap vs vs.toArray }) : wpAny (model prog w) A (call (.builtin "sorted") [.ref l]) Q E s := by
  refine Calls.call_function_entry kind_sorted plain_sorted entry_sorted (args_sorted1 _) ?_
  unfold Builtin.«sorted»
  refine wpAny_bind (m := checkCount "sorted" 1 1 _) (wpAny_pure ?_)
  refine wpAny_bind (collect_list hl ?_)
  refine wpAny_bind (wpAny_newList ?_)
  have hsz : ((s.heap.push (seqObj "list" #[] 0)).update s.heap.objs.size (Obj.mapSeq (· ++ vs.toArray))).objs.size = s.heap.objs.size + 1 := by
    rw [Heap.size_update, size_push']
  have hoL : (((s.heap.push (seqObj "list" #[] 0)).update s.heap.objs.size (Obj.mapSeq (· ++ vs.toArray))).push (seqObj "list" vs.toArray 0)).get? (s.heap.objs.size + 1) = some (seqObj "list" vs.toArray 0) := by
    rw [← hsz]; exact Heap.get?_push_size _ rfl
  show wpAny _ _ _ _ _ { s with heap := ((s.heap.push (seqObj "list" #[] 0)).update s.heap.objs.size (Obj.mapSeq (· ++ vs.toArray))).push (seqObj "list" vs.toArray 0) }
  rw [hsz]
  refine wpAny_bind (wpAny_holding (wpAny_call_entry slot_list_sort ⟨_, hoL, rfl⟩ entry_list_sort (sort_short hoL h2 ⟨_, rfl, ?_⟩) (args_list_sort _)))
  exact wpAny_pure ⟨_, rfl, h⟩
end

section
variable {prog : Program} {w : World} {A : Around} {E : Value → Shared → Prop} {s : Shared} {Q : Bool → Shared → Prop}
/-- two keys of one length, asked item by item -/
theorem kat_lexV {b : Bool} : ∀ {xs ys : List V} {vs ws : List Value} (i : Nat), Vals xs vs → Vals ys ws → Alike xs ys → xs.length = ys.length → Q (lexV xs ys) s → PySem.W.KatLex prog w A b false Q (vs.zip ws) i s
  | [], [], _, _, i, .nil, .nil, _, _, q => q
  | x :: xs, y :: ys, _, _, i, .cons (b := u) rx tx, .cons (b := v) ry ty, ha, hl, q => by
    rw [List.zip_cons_cons]
    refine PySem.W.kat_cons (alike_eqAt rx ry ha.1 prog w _ _ ?_)
    rw [lexV_cons] at q
    by_cases e : x = y
    · rw [if_pos e] at q
      rw [decide_eq_true e]
      exact PySem.W.kat_yes (kat_lexV (i + 1) tx ty ha.2 (by simpa using hl) q)
    · rw [if_neg e] at q
      rw [decide_eq_false e]
      refine PySem.W.kat_no ?_
      cases b && i == 0 with
      | false => exact PySem.W.kat_one _ _ (alike_lt rx ry ha.1 q)
      | true =>
        have h := ha.1
        cases x with
        | int a =>
          cases y with
          | int c => obtain ⟨t, rfl⟩ := rx; obtain ⟨t', rfl⟩ := ry; exact oneLt_int q
          | _ => cases h
        | str a =>
          cases y with
          | str c => obtain ⟨t, rfl⟩ := rx; obtain ⟨t', rfl⟩ := ry; exact oneLt_str q
          | _ => cases h
        | _ => cases y <;> cases h
end
section
variable {X : Cx} {pins : List (Addr × Obj)} {σ : L2.St} {H : Hp} {s : Shared}
theorem Inv.led_none {D : Addr} (I : Inv X pins σ H s) (hn : s.heap.get? D = none) : H D = none := by
  cases q : H D with
  | none => rfl
  | some u =>
    have h1 := (I.hok D u q)
    exfalso
    obtain ⟨o, ho⟩ : ∃ o, s.heap.get? D = some o := by
      cases u with
      | lst xs => obtain ⟨_, _, _, _, e⟩ := h1; exact ⟨_, e⟩
      | tup xs => obtain ⟨_, _, _, o, e, _⟩ := h1; exact ⟨o, e⟩
      | dK kvs => obtain ⟨_, _, _, _, o, _, _, e, _⟩ := h1; exact ⟨_, e⟩
      | dT kvs => obtain ⟨_, _, _, _, o, _, _, e, _⟩ := h1; exact ⟨_, e⟩
      | set S n => obtain ⟨o, _, _, _, e, _⟩ := h1; exact ⟨_, e⟩
      | ins C dx fs => obtain ⟨_, _, _, e, _⟩ := h1; exact ⟨_, e⟩
      | own y => exact h1
      | xd fs => obtain ⟨_, ⟨_, _, _, e, _⟩, _⟩ := h1; exact ⟨_, e⟩
      | rng lo hi => obtain ⟨_, _, _, e⟩ := h1; exact ⟨_, e⟩
      | frz ob u => obtain ⟨e, _⟩ := h1; exact ⟨_, e⟩
      | tbl ps => exact ⟨_, h1⟩
      | met f y => exact ⟨_, h1⟩
      | ext φ => exact h1.2.1
    rw [hn] at ho; cases ho
/-- behind a rule that keeps the ledger of all objects: a new list -/
theorem Inv.led {h' : Heap} {m : Str → Option Value} {D : Addr} {c : Nat} {ys : List V} {its : List Value} {t' : Nat} (I : Inv X pins σ H s) (hm : s.heap.Ns X.env.locals m) (F : Fr X.base X.env.locals h' m) (N : News X.base X.env.locals h' (allNews X.base s.heap X.env.locals))
    (hD : h'.get? D = some { cls := .type "list", data := .seq its.toArray c }) (hn : s.heap.get? D = none) (hv : Vals ys its) (hz : ys.length ≤ sizeLine) : Inv X pins σ (upd H D (.lst ys)) { s with heap := h', toks := t' } := by
  have keep : ∀ b o, b ≠ X.env.locals → s.heap.get? b = some o → h'.get? b = some o := fun b o h1 e => by
    cases q : X.base.get? b with
    | some u =>
      have := I.bk b u q
      rw [e] at this; cases this
      exact F.keep b _ q
    | none => exact (N (b, o) (mem_allNews h1 q e)).1
  have ne : ∀ b o, s.heap.get? b = some o → b ≠ D := fun b o e z => by rw [z, hn] at e; cases e
  have HD : H D = none := I.led_none hn
  have trk : ∀ b u, H b = some u → b ≠ X.env.locals := fun b u e z => by rw [z, I.free] at e; cases e
  refine I.step (g' := s.gens) (d' := s.drawn) (ch := []) (fun _ z => nomatch z) (fun b o h1 _ _ e _ => keep b o h1 e) (fun b o h1 _ _ e _ => ⟨o.slots, keep b o h1 e⟩) (fun b o _ e n => by rw [upd_ne (ne b o e)]; exact n) (fun b o _ e => ?_)
    (fun b xs e => by rw [upd_ne (ne_of_none e HD)]; exact e) (fun b o u e => by rw [upd_ne (ne_of_none e HD)]; exact e) (fun b ps e => ⟨#[], by rw [upd_ne (ne_of_none e HD), e]; simp⟩) (fun m' hm' => ?_) (fun b u e => ?_) I.bare
  · by_cases hb : b = X.env.locals
    · obtain ⟨o', _, _, e', _⟩ := F.ns
      exact ⟨o', by rw [hb]; exact e'⟩
    · exact ⟨o, keep b o hb e⟩
  · rw [hm'.eq_nsMap, ← hm.eq_nsMap]
    exact F.ns
  · by_cases hb : b = D
    · subst hb
      rw [upd_same] at e
      cases e
      exact ⟨hz, its, c, hv, hD⟩
    · rw [upd_ne hb] at e
      refine (I.hok b u e).stay (fun d v hd q => keep d v ?_ q) (fun d q => by rw [upd_ne (ne_of_none q HD)]; exact q) fun d xs q => by rw [upd_ne (ne_of_none q HD)]; exact q
      rcases hd with z | z
      · rw [z]; exact trk b u e
      · exact trk d _ z
end
end L2

set_option linter.all false
set_option maxRecDepth 100000
set_option maxHeartbeats 4000000
namespace TO
open PySem PySem.Spec PyProof.Rows L2
/-! ### sorted: a list of tuples, no two alike -/
abbrev TupsAt (H : Hp) : List Addr → List (List V) → Prop := Paired fun a k => H a = some (.tup k)
def rSorted (K : PySem.W.Frag) : List V → Hp → VK → Prop := fun xs H Q => ∃ (p : Addr) (as : List Addr) (ks : List (List V)), xs = [.ref p] ∧ SqL K H p (as.map .ref) ∧ TupsAt H as ks ∧ as.length < 64 ∧ (∀ k ∈ ks, ∃ x r, k = x :: r) ∧
  (∀ k ∈ ks, ∀ k' ∈ ks, Alike k k' ∧ k.length = k'.length) ∧ SO as.length (fun i j => lexV (ks.getD i []) (ks.getD j [])) ∧
  ∀ (l : Addr) (is : List Nat), H l = none → is.Perm (List.range as.length) → (∀ a b, a < b → b < as.length → lexV (ks.getD (is.getD a 0) []) (ks.getD (is.getD b 0) []) = true) → Q (.ref l) (upd H l (.lst (is.map fun i => V.ref (as.getD i 0))))
theorem tups_get {H : Hp} : ∀ {as : List Addr} {ks : List (List V)} {i : Nat}, TupsAt H as ks → i < as.length → H (as.getD i 0) = some (.tup (ks.getD i [])) ∧ ks.getD i [] ∈ ks
  | _, _, 0, .cons h _, _ => ⟨h, by simp⟩
  | _ :: as, _ :: ks, i + 1, .cons _ t, hi => by
    have := tups_get (i := i) t (by simpa using hi)
    simp only [List.getD_cons_succ]
    exact ⟨this.1, List.mem_cons_of_mem _ this.2⟩
section
variable {X : Cx}
theorem getD_ref {as : List Addr} {i : Nat} (h : i < as.length) : (as.map Value.ref).getD i Value.none = .ref (as.getD i 0) := by
  rw [List.getD_eq_getElem?_getD, List.getD_eq_getElem?_getD, List.getElem?_map, List.getElem?_eq_getElem h]
  rfl
theorem range_short : ∀ {as : List Addr}, as.length < 2 → (List.range as.length).map (fun i => V.ref (as.getD i 0)) = as.map V.ref
  | [], _ => rfl
  | [a], _ => rfl
  | _ :: _ :: _, h => by simp only [List.length_cons] at h; omega
theorem call_sorted : CallR X (.builtin "sorted") (rSorted X.K) := by
  intro pins s σ H xs us Q I rv h
  obtain ⟨p, as, ks, rfl, hp, hT, h64, hne, hal, hO, q⟩ := h
  obtain ⟨u, rfl, ru⟩ := rv.one
  cases ru
  obtain ⟨its, r, pl, _⟩ := I.list hp
  have e1 := refs_vals r
  subst e1
  have hlk : as.length = ks.length := Paired.length hT
  by_cases h2 : as.length < 2
  · refine sorted_short pl.isList (by simpa using h2) ?_
    have old : ∀ b o, s.heap.get? b = some o → (sortedAll s.heap (as.map Value.ref) (as.map Value.ref).toArray).get? b = some o := fun b o e => sortedAll_old e
    obtain ⟨e, he⟩ := sortedAll_at s.heap (as.map Value.ref) (as.map Value.ref).toArray
    have hn : s.heap.objs.size ≤ s.heap.objs.size + 1 := Nat.le_succ _
    have I' : Inv X pins σ (upd H (s.heap.objs.size + 1) (.lst (as.map V.ref))) { s with heap := sortedAll s.heap (as.map Value.ref) (as.map Value.ref).toArray } :=
      I.laid (t' := s.toks) old hn ⟨by rw [List.length_map]; exact Nat.le_of_lt (small1000 (by omega)), as.map Value.ref, e, valsRefs as, he⟩
    refine ⟨.ref _, _, I', rfl, ?_⟩
    have := q (s.heap.objs.size + 1) (List.range as.length) (I.hok.fresh hn) (List.Perm.refl _) (fun a b h1 h3 => by omega)
    have e5 : (List.range as.length).map (fun i => V.ref (as.getD i 0)) = as.map V.ref := range_short h2
    rw [e5] at this
    exact this
  · obtain ⟨m, F⟩ := I.fr
    have hm : s.heap.Ns X.env.locals m := F.ns
    refine PySem.W.kat_sorted (A := X.A) F (news_all (g := X.base) (h := s.heap) (L := X.env.locals)) pl.isList (by simp; omega) (by simpa using h64) fun D e1 h' F' N' hD => ?_
    have hDn : s.heap.get? D = none := by
      cases e : s.heap.get? D with
      | none => rfl
      | some o =>
        have z := N' (D, _) (List.mem_cons_self ..)
        exact absurd (hD (D, o) (mem_allNews z.2.1 z.2.2 e)) (Nat.lt_irrefl _)
    -- the tuples stand in h' too
    have tup' : ∀ a k, H a = some (.tup k) → ∃ its : List Value, Vals k its ∧ ∃ o n, h'.get? a = some o ∧ o.cls = .type "tuple" ∧ o.data = .seq its.toArray n := fun a k ha => by
      obtain ⟨_, its, rk, o, ho, hc, n, hd⟩ := I.hok a _ ha
      refine ⟨its, rk, o, n, ?_, hc, hd⟩
      have hL : a ≠ X.env.locals := fun z => by rw [z, I.free] at ha; cases ha
      have hb : X.base.get? a = none := by
        cases e : X.base.get? a with
        | none => rfl
        | some v => have := (I.bs a v e).2; rw [ha] at this; cases this
      exact (N' (a, o) (List.mem_cons_of_mem _ (mem_allNews hL hb ho))).1
    have h0 : 0 < as.length := by omega
    -- the kind of the first items
    have first : ∃ T : String, ∃ fs : List Value, PySem.W.KatTups h' (as.map Value.ref) fs ∧ fs.length = as.length ∧ (T = "int" ∨ T = "str") ∧ ∀ v ∈ fs, (∃ i t, v = .int i t ∧ T = "int") ∨ ∃ x t, v = .str x t ∧ T = "str" := by
      obtain ⟨k0, hk0⟩ : ∃ k0, k0 ∈ ks := by
        cases ks with
        | nil => rw [List.length_nil] at hlk; omega
        | cons k r => exact ⟨k, List.mem_cons_self ..⟩
      obtain ⟨x0, r0, e0⟩ := hne k0 hk0
      have key : ∀ k ∈ ks, ∃ x r, k = x :: r ∧ alikeV x x0 = true := fun k hk => by
        obtain ⟨x, r, rfl⟩ := hne k hk
        have := (hal _ hk _ hk0).1
        rw [e0] at this
        exact ⟨x, r, rfl, this.1⟩
      have x0k : (∃ i, x0 = .int i) ∨ ∃ y, x0 = .str y := by
        have := (hal _ hk0 _ hk0).1
        rw [e0] at this
        have z := this.1
        cases x0 <;> first | exact .inl ⟨_, rfl⟩ | exact .inr ⟨_, rfl⟩ | cases z
      obtain ⟨T, hTx⟩ : ∃ T : String, ((∃ i, x0 = V.int i) ∧ T = "int") ∨ ((∃ y, x0 = V.str y) ∧ T = "str") := by
        rcases x0k with c | c
        · exact ⟨"int", .inl ⟨c, rfl⟩⟩
        · exact ⟨"str", .inr ⟨c, rfl⟩⟩
      refine ⟨T, ?_⟩
      have go : ∀ {as' : List Addr} {ks' : List (List V)}, TupsAt H as' ks' → (∀ k ∈ ks', ∃ x r, k = x :: r ∧ alikeV x x0 = true) → ∃ fs : List Value, PySem.W.KatTups h' (as'.map Value.ref) fs ∧ fs.length = as'.length ∧
          ∀ v ∈ fs, (∃ i t, v = Value.int i t ∧ ∃ j, x0 = .int j) ∨ ∃ y t, v = Value.str y t ∧ ∃ j, x0 = .str j := by
        intro as' ks' ht hk
        induction ht with
        | nil => exact ⟨[], trivial, rfl, fun v hv => by cases hv⟩
        | cons ha _ ih =>
          obtain ⟨fs, h1, h2, h3⟩ := ih fun k hk' => hk k (List.mem_cons_of_mem _ hk')
          obtain ⟨x, r, rfl, hx⟩ := hk _ (List.mem_cons_self ..)
          obtain ⟨its, rk, o, n, ho, hc, hd⟩ := tup' _ _ ha
          cases rk with
          | @cons _ v _ its' rx rt =>
            refine ⟨v :: fs, PySem.W.KatTups.cons ho hc hd (by simp) h1, by simp [h2], fun u hu => ?_⟩
            rcases List.mem_cons.mp hu with e | e
            · subst e
              cases x with
              | int i => obtain ⟨t, rfl⟩ := rx; cases x0 <;> first | exact .inl ⟨i, t, rfl, _, rfl⟩ | cases hx
              | str y => obtain ⟨t, rfl⟩ := rx; cases x0 <;> first | exact .inr ⟨y, t, rfl, _, rfl⟩ | cases hx
              | _ => cases x0 <;> cases hx
            · exact h3 u e
      obtain ⟨fs, h1, h2, h3⟩ := go hT key
      refine ⟨fs, h1, h2, ?_, fun v hv => ?_⟩
      · rcases hTx with c | c
        · exact .inl c.2
        · exact .inr c.2
      · rcases h3 v hv with ⟨i, t, e, j, c⟩ | ⟨y, t, e, j, c⟩
        · refine .inl ⟨i, t, e, ?_⟩
          rcases hTx with ⟨_, z⟩ | ⟨⟨y, z⟩, _⟩
          · exact z
          · rw [c] at z; cases z
        · refine .inr ⟨y, t, e, ?_⟩
          rcases hTx with ⟨⟨y, z⟩, _⟩ | ⟨_, z⟩
          · rw [c] at z; cases z
          · exact z
    obtain ⟨T, fs, hk1, hk2, hTT, hk3⟩ := first
    refine PySem.W.kat_kind (T := .type T) hk1 (by omega) (fun v hv => ?_) (by simp) ?_
    · rcases hk3 v hv with ⟨i, t, rfl, e⟩ | ⟨y, t, rfl, e⟩
      · rw [e]; exact PySem.W.Looks.of_pure rfl
      · rw [e]; exact PySem.W.Looks.of_pure rfl
    have hTb : (Value.type T != Value.type "tuple") = true := by rcases hTT with e | e <;> rw [e] <;> rfl
    rw [hTb, List.length_map]
    refine sort_ok (n := as.length) hO (fun i j Cc hi hj hC => ?_) (by omega) fun pp R U => ?_
    · show wpAny _ _ (keyLt' (tuples' true) ((as.map Value.ref).getD i Value.none) ((as.map Value.ref).getD j Value.none)) _ _ _
      rw [getD_ref hi, getD_ref hj]
      obtain ⟨gi, mi⟩ := tups_get hT hi
      obtain ⟨gj, mj⟩ := tups_get hT hj
      obtain ⟨vi, ri, oi, ni, hoi, _, hdi⟩ := tup' _ _ gi
      obtain ⟨vj, rj, oj, nj, hoj, _, hdj⟩ := tup' _ _ gj
      have hl2 := (hal _ mi _ mj).2
      have li := ri.length
      have lj := rj.length
      refine PySem.W.kat_lt hoi hdi hoj hdj ?_
      have : decide (vi.toArray.size < vj.toArray.size) = false := decide_eq_false (by rw [List.size_toArray, List.size_toArray]; omega)
      rw [this]
      exact kat_lexV 0 (by simpa using ri) (by simpa using rj) (hal _ mi _ mj).1 hl2 hC
    · refine PySem.W.KasFin.intro F' N' (PySem.W.UpdF.head fun q hq => Nat.ne_of_lt (hD q hq)) fun h'' c F'' N'' => ?_
      have hsz := R.size
      have hD'' := (N'' (D, _) (List.mem_cons_self ..)).1
      have eout : (pp.toList.map fun i => (as.map Value.ref).getD i Value.none) = (pp.toList.map fun i => Value.ref (as.getD i 0)) := by
        apply List.map_congr_left
        intro i hi
        have : i ∈ pp := by simpa using hi
        have := R.perm.mem_iff.mp this
        exact getD_ref (by simpa using this)
      rw [eout] at hD''
      have I' := I.led (t' := s.toks) (D := D) (c := c) (ys := (pp.toList.map fun i => V.ref (as.getD i 0))) (its := pp.toList.map fun i => Value.ref (as.getD i 0)) hm F'' (fun q hq => N'' q (List.mem_cons_of_mem _ hq)) hD'' hDn ?_ ?_
      · refine ⟨.ref D, _, I', rfl, q D pp.toList ?_ ?_ ?_⟩
        · exact I.led_none hDn
        · have := Array.perm_iff_toList_perm.mp R.perm
          simpa using this
        · intro a b h1 h3
          have := U a b h1 h3
          rw [pg_eq, pg_eq] at this
          simpa [List.getD_eq_getElem?_getD] using this
      · have := valsRefs (pp.toList.map fun i => as.getD i 0)
        rw [List.map_map, List.map_map] at this
        exact this
      · rw [List.length_map]
        have : pp.toList.length = as.length := by simpa using hsz
        exact Nat.le_of_lt (small1000 (by omega))
end
end TO

set_option linter.all false
set_option maxRecDepth 100000
set_option maxHeartbeats 4000000
namespace TO
open PySem L2
/-! ### values as trees -/
inductive D where
  | int (i : Int)
  | str (x : Str)
  | lst (ds : List D)
  | tup (ds : List D)
mutual
inductive Bears (H : Hp) : D → V → Prop
  | int (i : Int) : Bears H (.int i) (.int i)
  | str (x : Str) : Bears H (.str x) (.str x)
  | lst {a : Addr} {ds : List D} {vs : List V} : H a = some (.lst vs) → BearsL H ds vs → Bears H (.lst ds) (.ref a)
  | tup {a : Addr} {ds : List D} {vs : List V} : H a = some (.tup vs) → BearsL H ds vs → Bears H (.tup ds) (.ref a)
inductive BearsL (H : Hp) : List D → List V → Prop
  | nil : BearsL H [] []
  | cons {d : D} {v : V} {ds : List D} {vs : List V} : Bears H d v → BearsL H ds vs → BearsL H (d :: ds) (v :: vs)
end
mutual
def D.wt : D → Nat
  | .int _ => 1
  | .str _ => 1
  | .lst ds => 1 + D.wts ds
  | .tup ds => 1 + D.wts ds
def D.wts : List D → Nat
  | [] => 0
  | d :: r => D.wt d + D.wts r
end
theorem D.wt_pos : ∀ d : D, 1 ≤ d.wt
  | .int _ => Nat.le_refl _
  | .str _ => Nat.le_refl _
  | .lst ds => by simp only [D.wt]; omega
  | .tup ds => by simp only [D.wt]; omega
theorem D.wts_app : ∀ a b : List D, D.wts (a ++ b) = D.wts a + D.wts b
  | [], b => by simp [D.wts]
  | d :: r, b => by simp only [List.cons_append, D.wts, D.wts_app r b]; omega
theorem D.wts_len : ∀ a : List D, a.length ≤ D.wts a
  | [] => Nat.zero_le _
  | d :: r => by
    have h1 := D.wt_pos d
    have h2 := D.wts_len r
    simp only [List.length_cons, D.wts]
    omega
theorem BearsL.len {H : Hp} : ∀ {ds : List D} {vs : List V}, BearsL H ds vs → ds.length = vs.length
  | _, _, .nil => rfl
  | _, _, .cons _ t => by simp [BearsL.len t]
theorem BearsL.app {H : Hp} : ∀ {ds es : List D} {vs us : List V}, BearsL H ds vs → BearsL H es us → BearsL H (ds ++ es) (vs ++ us)
  | _, _, _, _, .nil, h => h
  | _, _, _, _, .cons a t, h => .cons a (BearsL.app t h)
theorem BearsL.snoc {H : Hp} : ∀ {ds : List D} {d : D} {vs : List V}, BearsL H (ds ++ [d]) vs → ∃ us v, vs = us ++ [v] ∧ BearsL H ds us ∧ Bears H d v
  | [], d, _, .cons h .nil => ⟨[], _, rfl, .nil, h⟩
  | e :: ds, d, _, .cons h t => by
    obtain ⟨us, v, rfl, h1, h2⟩ := BearsL.snoc (ds := ds) t
    exact ⟨_ :: us, v, rfl, .cons h h1, h2⟩
def rowD (ρ : Row) : D := .tup [.int ρ.n, .int ρ.r, .str ρ.t]
theorem RowAt.bears {H : Hp} {a : Addr} {ρ : Row} (h : RowAt H a ρ) : Bears H (rowD ρ) (.ref a) := .tup h (.cons (.int _) (.cons (.int _) (.cons (.str _) .nil)))
theorem RowsAt.bears {H : Hp} : ∀ {as : List Addr} {ρs : List Row}, RowsAt H as ρs → BearsL H (ρs.map rowD) (as.map .ref)
  | _, _, .nil => .nil
  | _, _, .cons h t => .cons (RowAt.bears h) (RowsAt.bears t)
theorem LstAt.bears {H : Hp} {l : Addr} {ρs : List Row} (h : LstAt H l ρs) : Bears H (.lst (ρs.map rowD)) (.ref l) := by
  obtain ⟨as, h1, h2⟩ := h
  exact .lst h1 (RowsAt.bears h2)
theorem rows_wt : ∀ ρs : List Row, D.wts (ρs.map rowD) = 4 * ρs.length
  | [] => rfl
  | ρ :: r => by simp only [List.map_cons, D.wts, rows_wt r, rowD, D.wt, List.length_cons]; omega
end TO
namespace K1
open PySem L2 TO
/-- Python's own names, as they are -/
structure Bt (mg : Str → Option Value) : Prop where
  len : mg "len" = none
  min : mg "min" = none
  isi : mg "isinstance" = none
  int : mg "int" = none
  bool : mg "bool" = none
  list : mg "list" = none
  tuple : mg "tuple" = none
  str : mg "str" = none
  sorted : mg "sorted" = none
  range : mg "range" = none
abbrev sWhole : Stmt := top 15
abbrev sAt : Stmt := top 16
abbrev sSame : Stmt := top 17
abbrev sIsRow : Stmt := top 21
abbrev sAreRows : Stmt := top 22
abbrev sGoodBl : Stmt := top 23
theorem pe_tyn {X : Cx} {x : Str} {n : String} {pos : Pos} (hm : X.mg x = none) (hv : bootBuiltins x = some (.type n)) (hg : Gl X x := by rfl) (hn : x ≠ "__name__" := by decide) (hd : (x == ("__debug__" : Str)) = false := by decide) : PE X (.Name x pos) (tC (.ty n)) := pe_bltn hg hm hv rfl hn hd
theorem b_int : bootBuiltins "int" = some (.type "int") := by decide +kernel
theorem b_bool : bootBuiltins "bool" = some (.type "bool") := by decide +kernel
theorem b_list : bootBuiltins "list" = some (.type "list") := by decide +kernel
theorem b_tuple : bootBuiltins "tuple" = some (.type "tuple") := by decide +kernel
theorem b_str : bootBuiltins "str" = some (.type "str") := by decide +kernel
theorem b_isi : bootBuiltins "isinstance" = some (.builtin "isinstance") := by decide +kernel
section
variable {P : Program} {w : World} {K : PySem.W.Frag} {mg : Str → Option Value} {base : Heap}
def spWhole : Sp := fun vs H Q _ => ∃ i, vs = [.int i] ∧ Q (.bl true) H
theorem scWhole : FnScope ["_law_found"] ["_law_found"] (defScope sWhole) := ⟨rfl, rfl, rfl, by decide +kernel, rfl, by decide +kernel, by decide +kernel⟩
theorem ok_whole {f : Addr} {fd : FuncData} (F : Fun K "_law_whole" "_law_whole" sWhole f fd) (B : Bt mg) : FnOk P w K mg base CX0 1 f fd ["_law_found"] spWhole := by
  refine F.ok scWhole (fun vs H Q E h => ?_) (fun cdv A outer s H vs Q E hr h => ?_)
  · obtain ⟨i, rfl, _⟩ := h
    rfl
  · obtain ⟨i, rfl, k⟩ := h
    refine ⟨_, pss_one (ps_ret (pe_and (pe_callB call_isi (by rfl) B.isi b_isi (pa_cons (pv 0) (pa_cons (pe_tyn B.int b_int) pa_nil))) (pe_one (pe_not (pe_callB call_isi (by rfl) B.isi b_isi (pa_cons (pv 0) (pa_cons (pe_tyn B.bool b_bool) pa_nil))))))), ?_⟩
    refine ⟨_, rfl, _, _, _, _, rfl, .int i, rfl, _, rfl, ?_⟩
    exact ⟨_, rfl, _, _, _, _, rfl, .int i, rfl, _, rfl, k⟩
def spAt (K : PySem.W.Frag) : Sp := fun vs H Q _ => ∃ (a : Addr) (ns : List Int), vs = [.ref a, .int 0] ∧ SqL K H a (ns.map V.int) ∧ ns.length ≤ 1000 ∧ ∀ H', Same H H' → Q (.int (ns.headD 0)) H'
theorem scAt : FnScope ["_law_script", "_law_k"] ["_law_script", "_law_k"] (defScope sAt) := ⟨rfl, rfl, rfl, by decide +kernel, rfl, by decide +kernel, by decide +kernel⟩
theorem ok_at {f : Addr} {fd : FuncData} (F : Fun K "_law_at" "_law_at" sAt f fd) (B : Bt mg) : FnOk P w K mg base CX0 1 f fd ["_law_script", "_law_k"] (spAt K) := by
  refine F.ok scAt (fun vs H Q E h => ?_) (fun cdv A outer s H vs Q E hr h => ?_)
  · obtain ⟨a, ns, rfl, _⟩ := h
    rfl
  · obtain ⟨a, ns, rfl, ha, hl, k⟩ := h
    refine ⟨_, pss_cons (ps_if (pt_cmpR (op_eqNil hr.units0) (pv 0) (pe_lst pa_nil) (nomark _)) (pss_one (ps_ret pe_int)) pss_nil)
      (pss_one (ps_ret (pe_op op_add (pe_ix ix_list (pv 0) (pe_op op_mod (pv 1) (pe_callB call_len_seq (by rfl) B.len PySem.boot_len (pa_cons (pv 0) pa_nil))) (fun _ _ => rfl)) (pe_op op_mul pe_int (pe_op op_fdiv (pv 1) (pe_callB call_len_seq (by rfl) B.len PySem.boot_len (pa_cons (pv 0) pa_nil))))))), ?_⟩
    refine ⟨_, rfl, by show 0 ≤ sizeLine; decide, fun n hn => ?_⟩
    have s1 : Same H (upd H n (.lst [])) := Same.upd_new hn
    refine ⟨a, n, _, rfl, rfl, s1.seq ha, upd_same, _, rfl, ?_⟩
    cases ns with
    | nil => exact k _ s1
    | cons z r =>
      refine iteF ?_
      have hlen : ((((z :: r).map V.int).length : Nat) : Int) = (r.length : Int) + 1 := by simp
      refine ⟨_, rfl, _, rfl, _, rfl, a, _, rfl, .inl (s1.seq ha), _, _, rfl, rfl, by rw [hlen]; omega, ?_⟩
      refine ⟨a, _, _, .int z, rfl, rfl, s1.seq ha, ?_, ?_⟩
      · show atI ((z :: r).map V.int) (0 % _) = some (.int z)
        rw [Int.zero_emod]
        exact atI_nat (j := 0) rfl
      refine ⟨_, rfl, _, rfl, a, _, rfl, .inl (s1.seq ha), _, _, rfl, rfl, ⟨by rw [hlen]; omega, ?_⟩, _, _, rfl, rfl, .inl ⟨by decide, by decide⟩, _, _, rfl, rfl, ?_⟩
      · rw [hlen]
        simp only [List.length_cons] at hl
        omega
      · have e : z + 3 * (0 / (((z :: r).map V.int).length : Int)) = z := by rw [Int.zero_ediv]; omega
        show Q (.int (z + 3 * (0 / (((z :: r).map V.int).length : Int)))) _
        rw [e]
        exact k _ s1
end
end K1

set_option linter.all false
set_option maxRecDepth 100000
set_option maxHeartbeats 4000000
namespace K1
open PySem L2 TO
section
variable {P : Program} {w : World} {K : PySem.W.Frag} {mg : Str → Option Value} {base : Heap}
theorem last_at {α : Type} (us : List α) (v : α) : (us ++ [v])[(us ++ [v]).length - 1]? = some v := by simp
def spSame : Sp := fun vs H Q _ => ∃ (t : D) (f d : V), vs = [f, d] ∧ Bears H t f ∧ Bears H t d ∧ t.wt < 100000 ∧ ∀ H', Same H H' → Q (.bl true) H'
theorem scSame : FnScope ["_law_found", "_law_due", "_law_left", "_law_right", "_law_one", "_law_two"] ["_law_found", "_law_due"] (defScope sSame) := ⟨rfl, rfl, rfl, by decide +kernel, rfl, by decide +kernel, by decide +kernel⟩
theorem ok_same {f fW : Addr} {fd fdW : FuncData} (F : Fun K "_law_same" "_law_same" sSame f fd) (B : Bt mg) (gW : Gf K mg "_law_whole" fW fdW ["_law_found"]) (GW : FnOk P w K mg base CX0 1 fW fdW ["_law_found"] spWhole) :
    FnOk P w K mg base CX0 2 f fd ["_law_found", "_law_due"] spSame := by
  refine F.ok scSame (fun vs H Q E h => ?_) (fun cdv A outer s H vs Q E hr h => ?_)
  · obtain ⟨t, f, d, rfl, _⟩ := h
    rfl
  · obtain ⟨t, x, y, rfl, hx, hy, hw, fin⟩ := h
    refine ⟨_, pss_cons (ps_set (i := 2) scSame.nd rfl (Or.inl rfl) (pe_lst (pa_cons (pv 0) pa_nil)))
      (pss_cons (ps_set (i := 3) scSame.nd rfl (Or.inl rfl) (pe_lst (pa_cons (pv 1) pa_nil)))
      (pss_cons (ps_while PassesOwn.never (pt_cmpR (op_neNil hr.units0) (pv 3) (pe_lst pa_nil) (nomark _))
        (pss_cons (ps_set (i := 4) scSame.nd rfl (Or.inl rfl) (pe_bm0 PySem.F.plainAttrs_list PySem.F.slot_list_pop PySem.F.type_list_pop mt_pop (pv 2)))
        (pss_cons (ps_set (i := 5) scSame.nd rfl (Or.inl rfl) (pe_bm0 PySem.F.plainAttrs_list PySem.F.slot_list_pop PySem.F.type_list_pop mt_pop (pv 3)))
        (pss_one (ps_if (pt_val (pe_callB call_isiT (by rfl) B.isi b_isi (pa_cons (pv 5) (pa_cons (pe_tup (pa_cons (pe_tyn B.list b_list) (pa_cons (pe_tyn B.tuple b_tuple) pa_nil))) pa_nil))))
          (pss_cons (ps_if (pt_cmpR op_ne (pe_callB call_isi (by rfl) B.isi b_isi (pa_cons (pv 4) (pa_cons (pe_tyn B.list b_list) pa_nil))) (pe_callB call_isi (by rfl) B.isi b_isi (pa_cons (pv 5) (pa_cons (pe_tyn B.list b_list) pa_nil))) (nomark _)) (pss_one (ps_ret pe_bl)) pss_nil)
          (pss_cons (ps_if (PW.pt (pw_or (pt_cmpR op_ne (pe_callB call_isi (by rfl) B.isi b_isi (pa_cons (pv 4) (pa_cons (pe_tyn B.tuple b_tuple) pa_nil))) (pe_callB call_isi (by rfl) B.isi b_isi (pa_cons (pv 5) (pa_cons (pe_tyn B.tuple b_tuple) pa_nil))) (nomark _))
              (pw_or1 (pt_cmpR op_ne (pe_callB call_len_seq (by rfl) B.len PySem.boot_len (pa_cons (pv 4) pa_nil)) (pe_callB call_len_seq (by rfl) B.len PySem.boot_len (pa_cons (pv 5) pa_nil)) (nomark _))))) (pss_one (ps_ret pe_bl)) pss_nil)
          (pss_cons (ps_expr (pe_bm PySem.F.plainAttrs_list PySem.F.slot_list_extend PySem.F.type_list_extend (MtR.or mt_extend mt_extendT) (pv 2) (pa_cons (pv 4) pa_nil)))
          (pss_one (ps_expr (pe_bm PySem.F.plainAttrs_list PySem.F.slot_list_extend PySem.F.type_list_extend (MtR.or mt_extend mt_extendT) (pv 3) (pa_cons (pv 5) pa_nil)))))))
          (pss_one (ps_if (pt_val (pe_callB call_isi (by rfl) B.isi b_isi (pa_cons (pv 5) (pa_cons (pe_tyn B.str b_str) pa_nil))))
            (pss_one (ps_if (PW.pt (pw_or (pt_not (pt_val (pe_callB call_isi (by rfl) B.isi b_isi (pa_cons (pv 4) (pa_cons (pe_tyn B.str b_str) pa_nil))))) (pw_or1 (pt_cmpR op_ne (pv 4) (pv 5) (nomark _))))) (pss_one (ps_ret pe_bl)) pss_nil))
            (pss_one (ps_if (PW.pt (pw_or (pt_not (pt_val (pe_call GW hr rfl gW.mg gW.kp gW.b .nil pass0 (pa_cons (pv 4) pa_nil)))) (pw_or1 (pt_cmpR op_ne (pv 4) (pv 5) (nomark _))))) (pss_one (ps_ret pe_bl)) pss_nil)))))))))
      (pss_one (ps_ret pe_bl)))), ?_⟩
    refine ⟨_, rfl, by show 1 ≤ sizeLine; decide, fun l hl => ?_⟩
    refine ⟨_, rfl, by show 1 ≤ sizeLine; decide, fun r hr' => ?_⟩
    have hlr : l ≠ r := ne_of_none upd_same hr'
    have hr0 : H r = none := by rw [upd_ne hlr.symm] at hr'; exact hr'
    refine ⟨fun m σ H2 => ∃ (ts : List D) (ls rs : List V) (v1 v2 : Option V), σ = [some x, some y, some (.ref l), some (.ref r), v1, v2] ∧ Same H H2 ∧ H2 l = some (.lst ls) ∧ H2 r = some (.lst rs) ∧ BearsL H ts ls ∧ BearsL H ts rs ∧ m = D.wts ts ∧ D.wts ts < 100000,
      ⟨_, [t], [x], [y], none, none, rfl, (Same.upd_new hl).trans (Same.upd_new hr'), by rw [upd_ne hlr]; exact upd_same, upd_same, .cons hx .nil, .cons hy .nil, rfl, by simp only [D.wts]; omega⟩, ?_⟩
    rintro m σ H2 ⟨ts, ls, rs, v1, v2, rfl, s2, hl2, hr2, b1, b2, rfl, hwt⟩
    refine ⟨_, rfl, by show 0 ≤ sizeLine; decide, fun n hn => ?_⟩
    have s3 : Same H2 (upd H2 n (.lst [])) := Same.upd_new hn
    refine ⟨r, n, rs, rfl, rfl, SqL.of (s3 _ _ hr2), upd_same, _, rfl, ?_⟩
    rcases List.eq_nil_or_concat ts with e | ⟨ts', t', e⟩
    · subst e
      cases b2
      exact fin _ (s2.trans s3)
    · rw [List.concat_eq_append] at e
      subst e
      obtain ⟨ls', one, rfl, c1, c2⟩ := b1.snoc
      obtain ⟨rs', two, rfl, d1, d2⟩ := b2.snoc
      have hne : (!(rs' ++ [two]).isEmpty) = true := by simp
      rw [show (if true = true then !(rs' ++ [two]).isEmpty else (rs' ++ [two]).isEmpty) = true from hne]
      refine iteT ?_
      have hnl : l ≠ n := ne_of_none hl2 hn
      have hnr : r ≠ n := ne_of_none hr2 hn
      rw [D.wts_app] at hwt
      have hwe : D.wts [t'] = t'.wt := by simp [D.wts]
      rw [hwe] at hwt
      have hwp := t'.wt_pos
      -- what a turn has to reach
      refine ⟨fun σ' H' => ∃ (ts : List D) (ls rs : List V) (v1 v2 : Option V), σ' = [some x, some y, some (.ref l), some (.ref r), v1, v2] ∧ Same H H' ∧ H' l = some (.lst ls) ∧ H' r = some (.lst rs) ∧ BearsL H ts ls ∧ BearsL H ts rs ∧ D.wts ts < D.wts (ts' ++ [t']), ?_, ?_⟩
      · rintro σ' H' ⟨us, ls, rs, v1, v2, e1, e2, e3, e4, e5, e6, e7⟩
        have := e7
        rw [D.wts_app, hwe] at this
        exact ⟨D.wts us, e7, us, ls, rs, v1, v2, e1, e2, e3, e4, e5, e6, rfl, by omega⟩
      refine ⟨_, rfl, .inl ⟨rfl, _, SqL.of (s3 _ _ hl2)⟩, l, _, _, rfl, rfl, s3 _ _ hl2, last_at _ _, ?_⟩
      rw [List.dropLast_concat]
      refine ⟨_, rfl, .inl ⟨rfl, _, SqL.of (by rw [upd_ne hlr.symm]; exact s3 _ _ hr2)⟩, r, _, _, rfl, rfl, (by rw [upd_ne hlr.symm]; exact s3 _ _ hr2), last_at _ _, ?_⟩
      rw [List.dropLast_concat]
      generalize hH4 : upd (upd (upd H2 n (.lst [])) l (.lst ls')) r (.lst rs') = H4
      have s4 : Same H H4 := fun b u hb => by
        rw [← hH4, upd_ne (ne_of_none hb hr0), upd_ne (ne_of_none hb hl)]
        exact s3 _ _ (s2 _ _ hb)
      have hl4 : H4 l = some (.lst ls') := by rw [← hH4, upd_ne hlr]; exact upd_same
      have hr4 : H4 r = some (.lst rs') := by rw [← hH4]; exact upd_same
      have hlz : ls'.length < 100000 := by have := D.wts_len ts'; rw [← c1.len]; omega
      have hrz : rs'.length < 100000 := by have := D.wts_len ts'; rw [← d1.len]; omega
      refine ⟨_, rfl, by show 2 ≤ sizeLine; decide, fun k hk => ?_⟩
      have s5 : Same H4 (upd H4 k (.tup [.ty "list", .ty "tuple"])) := Same.upd_new hk
      generalize hH5 : upd H4 k (.tup [.ty "list", .ty "tuple"]) = H5 at s5
      have hk5 : H5 k = some (.tup [.ty "list", .ty "tuple"]) := by rw [← hH5]; exact upd_same
      have s45 : Same H H5 := s4.trans s5
      have hl5 := s5 _ _ hl4
      have hr5 := s5 _ _ hr4
      cases c2 with
      | int i =>
        cases d2
        refine ⟨_, k, ["list", "tuple"], "int", false, rfl, .int i, .inl rfl, hk5, rfl, _, rfl, ?_⟩
        refine ⟨_, rfl, _, _, _, _, rfl, .int i, rfl, _, rfl, ?_⟩
        refine ⟨_, rfl, i, rfl, _, rfl, ?_⟩
        refine ⟨_, rfl, _, rfl, rfl, _, rfl, ?_⟩
        refine ite2 (fun c => absurd c (by simp)) (fun c => ?_)
        exact ⟨ts', ls', rs', _, _, rfl, s45, hl5, hr5, c1, d1, by rw [D.wts_app, hwe]; omega⟩
      | str z =>
        cases d2
        refine ⟨_, k, ["list", "tuple"], "str", false, rfl, .str z, .inr (.inl rfl), hk5, rfl, _, rfl, ?_⟩
        refine ⟨_, rfl, _, _, _, _, rfl, .str z, rfl, _, rfl, ?_⟩
        refine ⟨_, rfl, _, _, _, _, rfl, .str z, rfl, _, rfl, ?_⟩
        refine ⟨_, rfl, _, rfl, rfl, _, rfl, ?_⟩
        refine ite2 (fun c => absurd c (by simp)) (fun c => ?_)
        exact ⟨ts', ls', rs', _, _, rfl, s45, hl5, hr5, c1, d1, by rw [D.wts_app, hwe]; omega⟩
      | @lst a1 ds vs1 ha1 hv1 =>
        cases d2 with
        | @lst a2 _ vs2 ha2 hv2 =>
        have e1 := hv1.len
        have e2 := hv2.len
        have hdw : (D.lst ds).wt = 1 + D.wts ds := rfl
        have hds := D.wts_len ds
        have n1 : a1 ≠ l := ne_of_none ha1 hl
        have n2 : a2 ≠ l := ne_of_none ha2 hl
        have n3 : a1 ≠ r := ne_of_none ha1 hr0
        refine ⟨_, k, ["list", "tuple"], "list", true, rfl, .lst (s45 _ _ ha2), .inr (.inr (.inl rfl)), hk5, rfl, _, rfl, ?_⟩
        refine ⟨_, rfl, _, _, _, _, rfl, .lst (s45 _ _ ha1), rfl, _, rfl, _, _, _, _, rfl, .lst (s45 _ _ ha2), rfl, rfl, _, rfl, ?_⟩
        refine ite2 (fun c => absurd c (by simp)) (fun _ => ?_)
        refine ⟨_, rfl, _, _, _, _, rfl, .lst (s45 _ _ ha1), rfl, _, rfl, _, _, _, _, rfl, .lst (s45 _ _ ha2), rfl, rfl, _, rfl, ?_⟩
        refine ite2 (fun c => absurd c (by simp)) (fun _ => ?_)
        refine ⟨_, rfl, a1, _, rfl, .inl (SqL.of (s45 _ _ ha1)), _, rfl, a2, _, rfl, .inl (SqL.of (s45 _ _ ha2)), rfl, _, rfl, ?_⟩
        refine ite2 (fun c => absurd c (by simp [← e1, ← e2])) (fun _ => ?_)
        have z1 : ls'.length + vs1.length ≤ sizeLine := Nat.le_trans (m := 200000) (by omega) (by decide)
        have z2 : rs'.length + vs2.length ≤ sizeLine := Nat.le_trans (m := 200000) (by omega) (by decide)
        refine ⟨_, rfl, .inl ⟨rfl, _, SqL.of hl5⟩, _, rfl, .inl ⟨l, a1, ls', vs1, rfl, rfl, hl5, s45 _ _ ha1, z1, ?_⟩⟩
        have hr6 : (upd H5 l (.lst (ls' ++ vs1))) r = some (.lst rs') := by rw [upd_ne hlr.symm]; exact hr5
        refine ⟨_, rfl, .inl ⟨rfl, _, SqL.of hr6⟩, _, rfl, .inl ⟨r, a2, rs', vs2, rfl, rfl, hr6, by rw [upd_ne n2]; exact s45 _ _ ha2, z2, ?_⟩⟩
        refine ⟨ts' ++ ds, ls' ++ vs1, rs' ++ vs2, _, _, rfl, fun b u hb => ?_, by rw [upd_ne hlr]; exact upd_same, upd_same, c1.app hv1, d1.app hv2, ?_⟩
        · rw [upd_ne (ne_of_none hb hr0), upd_ne (ne_of_none hb hl)]
          exact s45 _ _ hb
        · rw [D.wts_app, D.wts_app, hwe, hdw]
          omega
      | @tup a1 ds vs1 ha1 hv1 =>
        cases d2 with
        | @tup a2 _ vs2 ha2 hv2 =>
        have e1 := hv1.len
        have e2 := hv2.len
        have hdw : (D.tup ds).wt = 1 + D.wts ds := rfl
        have hds := D.wts_len ds
        have n1 : a1 ≠ l := ne_of_none ha1 hl
        have n2 : a2 ≠ l := ne_of_none ha2 hl
        have n3 : a1 ≠ r := ne_of_none ha1 hr0
        refine ⟨_, k, ["list", "tuple"], "tuple", true, rfl, .tup (s45 _ _ ha2), .inr (.inr (.inr rfl)), hk5, rfl, _, rfl, ?_⟩
        refine ⟨_, rfl, _, _, _, _, rfl, .tup (s45 _ _ ha1), rfl, _, rfl, _, _, _, _, rfl, .tup (s45 _ _ ha2), rfl, rfl, _, rfl, ?_⟩
        refine ite2 (fun c => absurd c (by simp)) (fun _ => ?_)
        refine ⟨_, rfl, _, _, _, _, rfl, .tup (s45 _ _ ha1), rfl, _, rfl, _, _, _, _, rfl, .tup (s45 _ _ ha2), rfl, rfl, _, rfl, ?_⟩
        refine ite2 (fun c => absurd c (by simp)) (fun _ => ?_)
        refine ⟨_, rfl, a1, _, rfl, .inr (SqT.of (s45 _ _ ha1)), _, rfl, a2, _, rfl, .inr (SqT.of (s45 _ _ ha2)), rfl, _, rfl, ?_⟩
        refine ite2 (fun c => absurd c (by simp [← e1, ← e2])) (fun _ => ?_)
        have z1 : ls'.length + vs1.length ≤ sizeLine := Nat.le_trans (m := 200000) (by omega) (by decide)
        have z2 : rs'.length + vs2.length ≤ sizeLine := Nat.le_trans (m := 200000) (by omega) (by decide)
        refine ⟨_, rfl, .inl ⟨rfl, _, SqL.of hl5⟩, _, rfl, .inr ⟨l, a1, ls', vs1, rfl, rfl, hl5, s45 _ _ ha1, z1, ?_⟩⟩
        have hr6 : (upd H5 l (.lst (ls' ++ vs1))) r = some (.lst rs') := by rw [upd_ne hlr.symm]; exact hr5
        refine ⟨_, rfl, .inl ⟨rfl, _, SqL.of hr6⟩, _, rfl, .inr ⟨r, a2, rs', vs2, rfl, rfl, hr6, by rw [upd_ne n2]; exact s45 _ _ ha2, z2, ?_⟩⟩
        refine ⟨ts' ++ ds, ls' ++ vs1, rs' ++ vs2, _, _, rfl, fun b u hb => ?_, by rw [upd_ne hlr]; exact upd_same, upd_same, c1.app hv1, d1.app hv2, ?_⟩
        · rw [upd_ne (ne_of_none hb hr0), upd_ne (ne_of_none hb hl)]
          exact s45 _ _ hb
        · rw [D.wts_app, D.wts_app, hwe, hdw]
          omega
end
end K1

set_option linter.all false
set_option maxRecDepth 100000
set_option maxHeartbeats 4000000
namespace K1
open PySem L2 TO
section
variable {P : Program} {w : World} {K : PySem.W.Frag} {mg : Str → Option Value} {base : Heap}
def spIsRow : Sp := fun vs H Q _ => ∃ (a : Addr) (ρ : Row), vs = [.ref a] ∧ RowAt H a ρ ∧ Q (.bl true) H
theorem scIsRow : FnScope ["_law_found"] ["_law_found"] (defScope sIsRow) := ⟨rfl, rfl, rfl, by decide +kernel, rfl, by decide +kernel, by decide +kernel⟩
theorem ok_isrow {f fW : Addr} {fd fdW : FuncData} (F : Fun K "_law_is_row" "_law_is_row" sIsRow f fd) (B : Bt mg) (gW : Gf K mg "_law_whole" fW fdW ["_law_found"]) (GW : FnOk P w K mg base CX0 1 fW fdW ["_law_found"] spWhole) :
    FnOk P w K mg base CX0 2 f fd ["_law_found"] spIsRow := by
  refine F.ok scIsRow (fun vs H Q E h => ?_) (fun cdv A outer s H vs Q E hr h => ?_)
  · obtain ⟨a, ρ, rfl, _⟩ := h
    rfl
  · obtain ⟨a, ρ, rfl, ha, k⟩ := h
    refine ⟨_, pss_cons (ps_if (PW.pt (pw_or (pt_not (pt_val (pe_callB call_isi (by rfl) B.isi b_isi (pa_cons (pv 0) (pa_cons (pe_tyn B.tuple b_tuple) pa_nil))))) (pw_or (pt_cmpR op_ne (pe_callB call_len_seq (by rfl) B.len PySem.boot_len (pa_cons (pv 0) pa_nil)) pe_int (nomark _))
        (pw_or1 (pt_not (pt_val (pe_callB call_isi (by rfl) B.isi b_isi (pa_cons (pe_ix ix_tup (pv 0) pe_int (fun _ _ => rfl)) (pa_cons (pe_tyn B.str b_str) pa_nil))))))))) (pss_one (ps_ret pe_bl)) pss_nil)
      (pss_one (ps_ret (pe_and (pe_call GW hr rfl gW.mg gW.kp gW.b .nil pass0 (pa_cons (pe_ix ix_tup (pv 0) pe_int (fun _ _ => rfl)) pa_nil)) (pe_one (pe_call GW hr rfl gW.mg gW.kp gW.b .nil pass0 (pa_cons (pe_ix ix_tup (pv 0) pe_int (fun _ _ => rfl)) pa_nil)))))), ?_⟩
    refine ⟨_, rfl, _, _, _, _, rfl, .tup ha, rfl, _, rfl, ?_⟩
    refine ⟨_, rfl, a, _, rfl, .inr (SqT.of ha), rfl, _, rfl, ?_⟩
    refine ⟨_, rfl, a, _, _, _, rfl, rfl, SqT.of ha, atI_nat (j := 2) rfl, _, _, _, _, rfl, .str _, rfl, _, rfl, ?_⟩
    refine ⟨_, rfl, a, _, _, _, rfl, rfl, SqT.of ha, atI_nat (j := 0) rfl, _, rfl, _, rfl, ?_⟩
    exact ⟨_, rfl, a, _, _, _, rfl, rfl, SqT.of ha, atI_nat (j := 1) rfl, _, rfl, k⟩
def spAreRows : Sp := fun vs H Q _ => ∃ (l : Addr) (ρs : List Row), vs = [.ref l] ∧ LstAt H l ρs ∧ Q (.bl true) H
theorem scAreRows : FnScope ["_law_found", "_law_row"] ["_law_found"] (defScope sAreRows) := ⟨rfl, rfl, rfl, by decide +kernel, rfl, by decide +kernel, by decide +kernel⟩
theorem ok_arerows {f fR : Addr} {fd fdR : FuncData} (F : Fun K "_law_are_rows" "_law_are_rows" sAreRows f fd) (B : Bt mg) (gR : Gf K mg "_law_is_row" fR fdR ["_law_found"]) (GR : FnOk P w K mg base CX0 2 fR fdR ["_law_found"] spIsRow) :
    FnOk P w K mg base CX0 3 f fd ["_law_found"] spAreRows := by
  refine F.ok scAreRows (fun vs H Q E h => ?_) (fun cdv A outer s H vs Q E hr h => ?_)
  · obtain ⟨l, ρs, rfl, _⟩ := h
    rfl
  · obtain ⟨l, ρs, rfl, ⟨as, hl, hR⟩, k⟩ := h
    refine ⟨_, pss_cons (ps_if (pt_not (pt_val (pe_callB call_isi (by rfl) B.isi b_isi (pa_cons (pv 0) (pa_cons (pe_tyn B.list b_list) pa_nil))))) (pss_one (ps_ret pe_bl)) pss_nil)
      (pss_cons (ps_for PassesOwn.never rfl (pi_list (pv 0)) (pg_name (i := 1) scAreRows.nd rfl (Or.inl rfl)) (pss_one (ps_if (pt_not (pt_val (pe_call GR hr rfl gR.mg gR.kp gR.b .nil pass0 (pa_cons (pv 1) pa_nil)))) (pss_one (ps_ret pe_bl)) pss_nil)))
      (pss_one (ps_ret pe_bl))), ?_⟩
    refine ⟨_, rfl, _, _, _, _, rfl, .lst hl, rfl, _, rfl, ?_⟩
    refine ⟨_, rfl, l, rfl, ⟨_, SqL.of hl⟩, for_list (K := K) (a := l) (xs := as.map V.ref) (fun i σ H2 => ∃ v, σ = [some (.ref l), v] ∧ H2 = H) ⟨none, rfl, rfl⟩ (fun i σ H2 _ ⟨_, _, e⟩ => by rw [e]; exact SqL.of hl) ?_ ?_⟩
    · rintro i x σ H2 hi ⟨v, rfl, rfl⟩
      rw [List.getElem?_map] at hi
      cases e : as[i]? with
      | none => rw [e] at hi; cases hi
      | some a =>
        rw [e] at hi
        obtain rfl : V.ref a = x := Option.some.inj hi
        obtain ⟨ρ, _, ha⟩ := hR.get' e
        exact ⟨_, rfl, a, ρ, rfl, ha, _, rfl, _, rfl, rfl⟩
    · rintro σ H2 ⟨v, rfl, rfl⟩
      exact k
def spGoodBl : Sp := fun vs H Q _ => ∃ (bl d : Addr) (bas : List Addr) (B : List (List Row)), vs = [.ref bl, .ref d] ∧ H bl = some (.lst (bas.map .ref)) ∧ Paired (LstAt H) bas B ∧ Adj 8 (B.map List.length) ∧ LstAt H d B.flatten ∧ B.flatten.length < 10000 ∧ ∀ H', Same H H' → Q (.bl true) H'
theorem scGoodBl : FnScope ["_law_blocks", "_law_due", "_law_rows", "_law_last", "_law_block"] ["_law_blocks", "_law_due"] (defScope sGoodBl) := ⟨rfl, rfl, rfl, by decide +kernel, rfl, by decide +kernel, by decide +kernel⟩
theorem adj_at : ∀ {l : List Nat} {p i n : Nat}, Adj p l → l[i]? = some n → 1 ≤ n ∧ n ≤ 8 ∧ 5 ≤ (if i = 0 then p else l.getD (i - 1) 0) + n
  | m :: r, p, 0, n, ⟨a, b, c, _⟩, h => by simp at h; subst h; exact ⟨a, b, by simpa using c⟩
  | m :: r, p, i + 1, n, ⟨_, _, _, d⟩, h => by
    have := adj_at (p := m) (i := i) d (by simpa using h)
    refine ⟨this.1, this.2.1, ?_⟩
    rw [if_neg (by omega), Nat.add_sub_cancel]
    cases i with
    | zero => simpa using this.2.2
    | succ i => simpa using this.2.2
theorem ok_goodbl {f fA fS : Addr} {fd fdA fdS : FuncData} (F : Fun K "_law_good_blocks" "_law_good_blocks" sGoodBl f fd) (Bn : Bt mg) (gA : Gf K mg "_law_are_rows" fA fdA ["_law_found"]) (GA : FnOk P w K mg base CX0 3 fA fdA ["_law_found"] spAreRows)
    (gS : Gf K mg "_law_same" fS fdS ["_law_found", "_law_due"]) (GS : FnOk P w K mg base CX0 2 fS fdS ["_law_found", "_law_due"] spSame) : FnOk P w K mg base CX0 4 f fd ["_law_blocks", "_law_due"] spGoodBl := by
  refine F.ok scGoodBl (fun vs H Q E h => ?_) (fun cdv A outer s H vs Q E hr h => ?_)
  · obtain ⟨bl, d, bas, B, rfl, _⟩ := h
    rfl
  · obtain ⟨bl, d, bas, B, rfl, hbl, hbs, hadj, hd, hsz, fin⟩ := h
    have hr2 : Room 2 _ := hr.mono (by decide)
    have hlen : bas.length = B.length := Paired.length hbs
    refine ⟨_, pss_cons (ps_if (pt_not (pt_val (pe_callB call_isi (by rfl) Bn.isi b_isi (pa_cons (pv 0) (pa_cons (pe_tyn Bn.list b_list) pa_nil))))) (pss_one (ps_ret pe_bl)) pss_nil)
      (pss_cons (ps_set (i := 2) scGoodBl.nd rfl (Or.inl rfl) (pe_lst pa_nil))
      (pss_cons (ps_set (i := 3) scGoodBl.nd rfl (Or.inl rfl) pe_int)
      (pss_cons (ps_for PassesOwn.never rfl (pi_list (pv 0)) (pg_name (i := 4) scGoodBl.nd rfl (Or.inl rfl))
        (pss_cons (ps_if (PW.pt (pw_or (pt_not (pt_val (pe_call GA hr rfl gA.mg gA.kp gA.b .nil pass0 (pa_cons (pv 4) pa_nil)))) (pw_or (pt_cmpR (op_eqNil hr.units0) (pv 4) (pe_lst pa_nil) (nomark _)) (pw_or (pt_cmpR op_gt (pe_callB call_len_seq (by rfl) Bn.len PySem.boot_len (pa_cons (pv 4) pa_nil)) pe_int (nomark _))
            (pw_or1 (pt_cmpR op_lt (pe_op op_add (pv 3) (pe_callB call_len_seq (by rfl) Bn.len PySem.boot_len (pa_cons (pv 4) pa_nil))) pe_int (nomark _))))))) (pss_one (ps_ret pe_bl)) pss_nil)
        (pss_cons (ps_set (i := 3) scGoodBl.nd rfl (Or.inl rfl) (pe_callB call_len_seq (by rfl) Bn.len PySem.boot_len (pa_cons (pv 4) pa_nil)))
        (pss_one (ps_expr (pe_bm PySem.F.plainAttrs_list PySem.F.slot_list_extend PySem.F.type_list_extend mt_extend (pv 2) (pa_cons (pv 4) pa_nil)))))))
      (pss_one (ps_ret (pe_call GS hr2 rfl gS.mg gS.kp gS.b .nil pass0 (pa_cons (pv 2) (pa_cons (pv 1) pa_nil)))))))), ?_⟩
    refine ⟨_, rfl, _, _, _, _, rfl, .lst hbl, rfl, _, rfl, ?_⟩
    refine ⟨by show 0 ≤ sizeLine; decide, fun l hl => ?_⟩
    have s1 : Same H (upd H l (.lst [])) := Same.upd_new hl
    refine ⟨_, rfl, bl, rfl, ⟨_, SqL.of (s1 _ _ hbl)⟩, for_list (K := K) (a := bl) (xs := bas.map V.ref)
      (fun i σ H2 => ∃ v, σ = [some (.ref bl), some (.ref d), some (.ref l), some (.int ((if i = 0 then 8 else (B.map List.length).getD (i - 1) 0 : Nat) : Int)), v] ∧ Same H H2 ∧ LstAt H2 l (B.take i).flatten) ⟨none, rfl, s1, [], upd_same, .nil⟩ (fun i σ H2 _ ⟨_, _, s2, _⟩ => SqL.of (s2 _ _ hbl)) ?_ ?_⟩
    · rintro i x σ H2 hi ⟨v, rfl, s2, as, hl2, hR2⟩
      rw [List.getElem?_map] at hi
      cases e : bas[i]? with
      | none => rw [e] at hi; cases hi
      | some ab =>
        rw [e] at hi
        obtain rfl : V.ref ab = x := Option.some.inj hi
        have hiB : i < B.length := by rw [← hlen]; exact (List.getElem?_eq_some_iff.mp e).1
        obtain ⟨b, hb⟩ : ∃ b, B[i]? = some b := ⟨_, List.getElem?_eq_getElem hiB⟩
        obtain ⟨ab', e', hab0⟩ := paired_get hbs hb
        rw [e] at e'
        obtain rfl : ab = ab' := Option.some.inj e'
        obtain ⟨bs, hab, hRb⟩ := id hab0
        have hlb := hRb.len
        have hA := adj_at (i := i) (n := b.length) hadj (by rw [List.getElem?_map, hb]; rfl)
        have hl2' := hR2.len
        have q1 := flat_len (B := B) (i + 1)
        rw [List.take_add_one, hb, List.flatten_append] at q1
        simp only [Option.toList_some, List.flatten_cons, List.flatten_nil, List.append_nil, List.length_append] at q1
        refine ⟨_, rfl, ab, b, rfl, hab0.sameS s2, _, rfl, ?_⟩
        refine ⟨_, rfl, by show 0 ≤ sizeLine; decide, fun n hn => ?_⟩
        have s3 : Same H2 (upd H2 n (.lst [])) := Same.upd_new hn
        have hlz : ((bs.map V.ref).length : Int) = (b.length : Int) := by rw [List.length_map, hlb]
        refine ⟨ab, n, _, rfl, rfl, SqL.of (s3 _ _ (s2 _ _ hab)), upd_same, _, rfl, ?_⟩
        have hne : (bs.map V.ref).isEmpty = false := by
          cases bs with
          | nil => simp at hlb; omega
          | cons _ _ => rfl
        rw [show (if false = true then !(bs.map V.ref).isEmpty else (bs.map V.ref).isEmpty) = false from hne]
        refine iteF ?_
        refine ⟨_, rfl, ab, _, rfl, .inl (SqL.of (s3 _ _ (s2 _ _ hab))), _, _, rfl, rfl, _, rfl, ?_⟩
        refine ite2 (fun c => ?_) (fun _ => ?_)
        · have := of_decide_eq_true c
          rw [hlz] at this
          omega
        refine ⟨_, rfl, _, rfl, ab, _, rfl, .inl (SqL.of (s3 _ _ (s2 _ _ hab))), _, _, rfl, rfl, _, _, rfl, rfl, _, rfl, ?_⟩
        refine ite2 (fun c => ?_) (fun _ => ?_)
        · have := of_decide_eq_true c
          rw [hlz] at this
          omega
        have hll : l ≠ ab := (ne_of_none hab hl).symm
        have hln : l ≠ n := ne_of_none hl2 hn
        refine ⟨_, rfl, ab, _, rfl, .inl (SqL.of (s3 _ _ (s2 _ _ hab))), ?_⟩
        refine ⟨_, rfl, .inl ⟨rfl, _, SqL.of (s3 _ _ hl2)⟩, _, rfl, l, ab, _, _, rfl, rfl, s3 _ _ hl2, s3 _ _ (s2 _ _ hab), ?_, ?_⟩
        · rw [List.length_map, List.length_map]
          exact Nat.le_of_lt (Nat.lt_of_lt_of_le (m := 10001) (by omega) (by decide))
        · refine ⟨some (.ref ab), ?_, fun c u hc => ?_, as ++ bs, by rw [List.map_append]; exact upd_same, ?_⟩
          · rw [if_neg (show ¬ (i + 1 = 0) by omega), Nat.add_sub_cancel]
            have : (B.map List.length).getD i 0 = b.length := by rw [List.getD_eq_getElem?_getD, List.getElem?_map, hb]; rfl
            rw [this, hlz]
            rfl
          · rw [upd_ne (ne_of_none hc hl)]
            exact s3 _ _ (s2 _ _ hc)
          · rw [List.take_add_one, hb, List.flatten_append]
            simp only [Option.toList_some, List.flatten_cons, List.flatten_nil, List.append_nil]
            exact (RowsAt.app (hR2.same fun b xs q => s3 _ _ q) (hRb.same fun b xs q => s3 _ _ (s2 _ _ q))).same (NoTup.keep (NoTup.lst (s3 _ _ hl2)))
    · rintro σ H2 ⟨v, rfl, s2, h2⟩
      rw [List.length_map, hlen, List.take_of_length_le (Nat.le_refl _)] at h2
      refine ⟨_, rfl, _, rfl, .lst (B.flatten.map rowD), _, _, rfl, h2.bears, (hd.sameS s2).bears, ?_, fun H3 s3 => fin H3 (s2.trans s3)⟩
      simp only [D.wt, rows_wt]
      omega
end
end K1

set_option linter.all false
set_option maxRecDepth 100000
set_option maxHeartbeats 4000000
namespace K1
open PySem L2 TO
abbrev sSortBy : Stmt := top 24
theorem b_sorted : bootBuiltins "sorted" = some (.builtin "sorted") := by decide +kernel
def dRow : Row := ⟨0, 0, Str.empty⟩
def spotI (w : Bool) : Int := if w = true then 2 else 1
/-- the law's own key of a row at a place -/
def key3 (w : Bool) (ρ : Row) (i : Nat) : List V := [lead w ρ, .int ρ.n, .int (i : Int)]
def keys3 (w : Bool) (ρs : List Row) : List (List V) := ρs.zipIdx.map fun p => key3 w p.1 p.2
theorem keys3_len (w : Bool) (ρs : List Row) : (keys3 w ρs).length = ρs.length := by simp [keys3]
theorem keys3_get {w : Bool} {ρs : List Row} {i : Nat} (h : i < ρs.length) : (keys3 w ρs).getD i [] = key3 w (ρs.getD i dRow) i := by
  rw [List.getD_eq_getElem?_getD, List.getD_eq_getElem?_getD, keys3, List.getElem?_map, List.getElem?_zipIdx, List.getElem?_eq_getElem h]
  simp
theorem keys3_snoc (w : Bool) (ρs : List Row) (ρ : Row) : keys3 w (ρs ++ [ρ]) = keys3 w ρs ++ [key3 w ρ ρs.length] := by
  simp [keys3, List.zipIdx_append]
theorem mem_keys3 {w : Bool} {ρs : List Row} {k : List V} (h : k ∈ keys3 w ρs) : ∃ ρ i, k = key3 w ρ i := by
  obtain ⟨p, _, e⟩ := List.mem_map.mp h
  exact ⟨p.1, p.2, e.symm⟩
theorem lex_key3 {w : Bool} {a b : Row} {i j : Nat} (hn : a.n ≠ b.n) : lexV (key3 w a i) (key3 w b j) = ltR w a b := by
  unfold key3 ltR keyV
  have hne : ¬ V.int a.n = V.int b.n := fun q => hn (by injection q)
  by_cases e : lead w a = lead w b
  · simp only [lexV_cons, if_pos e, if_neg hne]
  · simp only [lexV_cons, if_neg e]
theorem nums_ne {ρs : List Row} (hnd : (ρs.map (·.n)).Nodup) {i j : Nat} (hi : i < ρs.length) (hj : j < ρs.length) (hij : i ≠ j) : (ρs.getD i dRow).n ≠ (ρs.getD j dRow).n := by
  rw [List.getD_eq_getElem?_getD, List.getD_eq_getElem?_getD, List.getElem?_eq_getElem hi, List.getElem?_eq_getElem hj]
  have hp := List.pairwise_iff_getElem.mp hnd
  simp only [Option.getD_some]
  rcases Nat.lt_or_gt_of_ne hij with q | q
  · have := hp i j (by simpa using hi) (by simpa using hj) q
    simpa using this
  · have := hp j i (by simpa using hj) (by simpa using hi) q
    simpa using Ne.symm this
theorem so_keys3 {w : Bool} {ρs : List Row} (hnd : (ρs.map (·.n)).Nodup) : SO ρs.length fun i j => lexV ((keys3 w ρs).getD i []) ((keys3 w ρs).getD j []) where
  tr := fun a b c _ _ _ h1 h2 => lexV_trans h1 h2
  tri := fun a b ha hb hab h => by
    rw [keys3_get ha, keys3_get hb] at *
    rw [lex_key3 (nums_ne hnd ha hb hab)] at h
    rw [lex_key3 (nums_ne hnd hb ha hab.symm)]
    rcases ltR_tri (w := w) (nums_ne hnd ha hb hab) with q | q
    · rw [q] at h; cases h
    · exact q
theorem map_range_getD {α : Type} (l : List α) (d : α) : (List.range l.length).map (fun i => l.getD i d) = l := by
  apply List.ext_getElem
  · simp
  · intro i h1 h2
    simp [List.getD_eq_getElem?_getD, List.getElem?_eq_getElem h2]
theorem rows_pick {H : Hp} {as : List Addr} {ρs : List Row} (h : RowsAt H as ρs) : ∀ {is : List Nat}, (∀ i ∈ is, i < ρs.length) → RowsAt H (is.map fun i => as.getD i 0) (is.map fun i => ρs.getD i dRow)
  | [], _ => .nil
  | i :: r, hi => by
    refine .cons ?_ (rows_pick h fun j hj => hi j (List.mem_cons_of_mem _ hj))
    have h1 := hi i (List.mem_cons_self ..)
    obtain ⟨a, e1, e2⟩ := h.get (List.getElem?_eq_getElem h1)
    show RowAt H (as.getD i 0) (ρs.getD i dRow)
    rw [List.getD_eq_getElem?_getD, List.getD_eq_getElem?_getD, e1, List.getElem?_eq_getElem h1]
    exact e2
theorem spot_at (w : Bool) (ρ : Row) : atI (rowV ρ) (spotI w) = some (lead w ρ) := by
  cases w with
  | false => exact atI_nat (j := 1) rfl
  | true => exact atI_nat (j := 2) rfl
section
variable {P : Program} {w : World} {K : PySem.W.Frag} {mg : Str → Option Value} {base : Heap}
def spSortBy : Sp := fun vs H Q _ => ∃ (w : Bool) (r : Addr) (ρs : List Row), vs = [.ref r, .int (spotI w)] ∧ LstAt H r ρs ∧ (ρs.map (·.n)).Nodup ∧ ρs.length < 64 ∧
  ∀ (l : Addr) (κs : List Row) (H' : Hp), H l = none → Same H H' → LstAt H' l κs → κs.Perm ρs → Srt (ltR w) κs → Q (.ref l) H'
theorem scSortBy : FnScope ["_law_rows", "_law_spot", "_law_keys"] ["_law_rows", "_law_spot"] (defScope sSortBy) := ⟨rfl, rfl, rfl, by decide +kernel, rfl, by decide +kernel, by decide +kernel⟩
theorem ok_sortby {f : Addr} {fd : FuncData} (F : Fun K "_law_sorted_by" "_law_sorted_by" sSortBy f fd) (B : Bt mg) : FnOk P w K mg base CX0 1 f fd ["_law_rows", "_law_spot"] spSortBy := by
  refine F.ok scSortBy (fun vs H Q E h => ?_) (fun cdv A outer s H vs Q E hr h => ?_)
  · obtain ⟨w, r, ρs, rfl, _⟩ := h
    rfl
  · obtain ⟨w, r, ρs, rfl, hr0, hnd, hlt, fin⟩ := h
    obtain ⟨as, hrl, hR⟩ := id hr0
    have hlen := hR.len
    refine ⟨_, pss_cons (ps_setComp (k := 2) (x := "_law_k") (fns := ["_law_spot", "_law_rows"]) (js := [1, 0]) rfl
        ⟨rfl, by decide +kernel, by decide +kernel, rfl, by decide +kernel, by decide +kernel, rfl, by simp [Env.kindOf]; exact ⟨rfl, rfl⟩, rfl, by decide +kernel⟩
        (pi_range1 rfl B.range (pa_cons (pe_callB call_len_seq (by rfl) B.len PySem.boot_len (pa_cons (pv 0) pa_nil)) pa_nil)) (fun _ _ _ _ => pifs_nil)
        (fun _ _ _ _ => pe_tup (pa_cons (pe_ix (ix_tupK K) (pe_ix (ix_listK K) (pv 2) (pv 0) (fun _ _ => rfl)) (pv 1) (fun _ _ => rfl)) (pa_cons (pe_ix (ix_tupK K) (pe_ix (ix_listK K) (pv 2) (pv 0) (fun _ _ => rfl)) pe_int (fun _ _ => rfl)) (pa_cons (pv 0) pa_nil))))
        scSortBy.nd rfl (Or.inl rfl))
      (pss_one (ps_ret (pe_comp (x := "_law_key") (fns := ["_law_rows"]) (js := [0]) rfl
        ⟨rfl, by decide +kernel, by decide +kernel, rfl, by decide +kernel, by decide +kernel, rfl, by simp [Env.kindOf]; rfl, rfl, by decide +kernel⟩
        (pi_list (pe_callB call_sorted (by rfl) B.sorted b_sorted (pa_cons (pv 2) pa_nil))) (fun _ _ _ _ => pifs_nil)
        (fun _ _ _ _ => pe_ix (ix_listK K) (pv 1) (pe_ix (ix_tupK K) (pv 0) pe_int (fun _ _ => rfl)) (fun _ _ => rfl))))), ?_⟩
    have h62 : (((as.map V.ref).length : Nat) : Int) < 2 ^ 62 := by rw [List.length_map, hlen]; omega
    refine ⟨_, rfl, r, _, rfl, .inl (SqL.of hrl), _, rfl, by omega, h62, fun L hL => comp_range (lo := 0)
      (fun i ys H3 => Same H H3 ∧ ∃ tas : List Addr, ys = tas.map V.ref ∧ TupsAt H3 tas (keys3 w (ρs.take i)) ∧ ∀ t ∈ tas, H t = none) ⟨Same.upd_new hL, [], rfl, .nil, by simp⟩ ?_ ?_⟩
    · rintro i ys H3 hi hL3 ⟨s3, tas, rfl, hT3, hf3⟩
      have hi' : i < ρs.length := by simp only [List.length_map, hlen] at hi; omega
      obtain ⟨ρ, hρ⟩ : ∃ ρ, ρs[i]? = some ρ := ⟨_, List.getElem?_eq_getElem hi'⟩
      obtain ⟨a, ea, ha⟩ := hR.get hρ
      have ga : (as.map V.ref)[i]? = some (V.ref a) := by rw [List.getElem?_map, ea]; rfl
      have e0 : (0 : Int) + (i : Int) = (i : Int) := by omega
      rw [e0]
      refine ⟨_, rfl, _, rfl, r, _, _, _, rfl, rfl, SqL.of (s3 _ _ hrl), atI_nat ga, _, rfl, a, _, _, _, rfl, rfl, SqT.of (s3 _ _ ha), spot_at w ρ, ?_⟩
      refine ⟨_, rfl, _, rfl, r, _, _, _, rfl, rfl, SqL.of (s3 _ _ hrl), atI_nat ga, a, _, _, _, rfl, rfl, SqT.of (s3 _ _ ha), atI_nat (j := 0) rfl, _, rfl, by show 3 ≤ sizeLine; decide, fun t ht => ?_⟩
      have htL : L ≠ t := ne_of_none hL3 ht
      have htn : H t = none := s3.free ht
      have s4 : Same H3 (upd H3 t (.tup [lead w ρ, .int ρ.n, .int (i : Int)])) := Same.upd_new ht
      refine ⟨s4 _ _ hL3, ?_, fun b u hb => ?_, tas ++ [t], by rw [List.map_append]; rfl, ?_, fun x hx => ?_⟩
      · have := Paired.length hT3
        rw [keys3_len, List.length_take] at this
        rw [List.length_map]
        exact small1000 (by omega)
      · rw [upd_ne (ne_of_none hb hL)]
        exact s4 _ _ (s3 _ _ hb)
      · rw [List.take_add_one, hρ]
        show TupsAt _ _ (keys3 w (ρs.take i ++ [ρ]))
        rw [keys3_snoc, List.length_take, Nat.min_eq_left (by omega)]
        refine paired_app ?_ (.cons ?_ .nil)
        · exact Paired.mapP hT3 fun x k q => NoTup.keep (NoTup.lst (s4 _ _ hL3)) _ _ (s4 _ _ q)
        · rw [upd_ne htL.symm]
          exact upd_same
      · rcases List.mem_append.mp hx with q | q
        · exact hf3 x q
        · rw [List.mem_singleton.mp q]; exact htn
    · rintro ys H3 hL3 ⟨s3, tas, rfl, hT3, hf3⟩
      have en : ((((as.map V.ref).length : Nat) : Int)).toNat = ρs.length := by rw [List.length_map, hlen]; omega
      rw [en, List.take_of_length_le (Nat.le_refl _)] at hT3
      have htl : tas.length = ρs.length := by rw [Paired.length hT3, keys3_len]
      refine ⟨_, rfl, L, tas, keys3 w ρs, rfl, SqL.of hL3, hT3, by omega, fun k hk => ?_, fun k hk k' hk' => ?_, by rw [htl]; exact so_keys3 hnd, fun l is hl hperm hup => ?_⟩
      · obtain ⟨ρ, i, rfl⟩ := mem_keys3 hk
        exact ⟨_, _, rfl⟩
      · obtain ⟨ρ, i, rfl⟩ := mem_keys3 hk
        obtain ⟨ρ', i', rfl⟩ := mem_keys3 hk'
        exact ⟨⟨lead_alike w ρ ρ', rfl, rfl, trivial⟩, rfl⟩
      rw [htl] at hperm hup
      have hin : ∀ i ∈ is, i < ρs.length := fun i hi => by simpa using hperm.mem_iff.mp hi
      have s4 : Same H3 (upd H3 l (.lst (is.map fun i => V.ref (tas.getD i 0)))) := Same.upd_new hl
      have hl0 : H l = none := s3.free hl
      refine ⟨l, rfl, ⟨_, SqL.of upd_same⟩, fun D hD => ?_⟩
      have s5 := Same.upd_new (o := .lst []) hD
      have hlD : l ≠ D := ne_of_none upd_same hD
      have hD3 : H3 D = none := s4.free hD
      have hD0 : H D = none := s3.free hD3
      refine comp_list (K := K) (xs := is.map fun i => V.ref (tas.getD i 0)) (fun j ys H5 => Same H3 H5 ∧ H5 l = some (.lst (is.map fun i => V.ref (tas.getD i 0))) ∧ ys = ((is.take j).map fun i => V.ref (as.getD i 0)))
        ⟨s4.trans s5, s5 _ _ upd_same, rfl⟩ (fun j ys H5 _ _ h => SqL.of h.2.1) ?_ ?_
      · rintro j v ys H5 hj hD5 ⟨s6, hl5, rfl⟩
        rw [List.getElem?_map] at hj
        cases ej : is[j]? with
        | none => rw [ej] at hj; cases hj
        | some i =>
          rw [ej] at hj
          obtain rfl : V.ref (tas.getD i 0) = v := Option.some.inj hj
          have hi := hin i (List.mem_of_getElem? ej)
          have ht := (tups_get hT3 (i := i) (by omega)).1
          rw [keys3_get hi] at ht
          obtain ⟨ρ, hρ⟩ : ∃ ρ, ρs[i]? = some ρ := ⟨_, List.getElem?_eq_getElem hi⟩
          obtain ⟨a, ea, ha⟩ := hR.get hρ
          have ga : (as.map V.ref)[i]? = some (V.ref a) := by rw [List.getElem?_map, ea]; rfl
          have eg : as.getD i 0 = a := by rw [List.getD_eq_getElem?_getD, ea]; rfl
          refine ⟨_, rfl, _, rfl, tas.getD i 0, _, _, _, rfl, rfl, SqT.of (s6 _ _ ht), atI_nat (j := 2) rfl, r, _, _, _, rfl, rfl, SqL.of (s6 _ _ (s3 _ _ hrl)), atI_nat ga, hD5, ?_, fun b u hb => ?_, ?_, ?_⟩
          · have := hperm.length_eq
            rw [List.length_range] at this
            rw [List.length_map, List.length_take]
            exact small1000 (by omega)
          · rw [upd_ne (ne_of_none hb hD3)]
            exact s6 _ _ hb
          · rw [upd_ne hlD]
            exact hl5
          · rw [List.take_add_one, ej, List.map_append]
            simp only [Option.toList_some, List.map_cons, List.map_nil, eg]
      · rintro ys H5 hD5 ⟨s6, hl5, rfl⟩
        rw [List.length_map, List.take_of_length_le (Nat.le_refl _)] at hD5
        have s06 : Same H H5 := s3.trans s6
        refine fin D (is.map fun i => ρs.getD i dRow) H5 hD0 s06 ⟨is.map fun i => as.getD i 0, by rw [List.map_map]; exact hD5, (rows_pick hR hin).same fun b xs q => s06 _ _ q⟩ ?_ ?_
        · have := hperm.map fun i => ρs.getD i dRow
          rw [map_range_getD] at this
          exact this
        · refine List.pairwise_iff_getElem.mpr fun a b ha hb hab => ?_
          simp only [List.length_map] at ha hb
          have hl' := hperm.length_eq
          rw [List.length_range] at hl'
          have z := hup a b hab (by omega)
          have ea : is.getD a 0 = is[a] := by rw [List.getD_eq_getElem?_getD, List.getElem?_eq_getElem ha]; rfl
          have eb : is.getD b 0 = is[b] := by rw [List.getD_eq_getElem?_getD, List.getElem?_eq_getElem hb]; rfl
          have ia := hin _ (List.getElem_mem ha)
          have ib := hin _ (List.getElem_mem hb)
          have hne : is[a] ≠ is[b] := by
            have nd : is.Nodup := hperm.nodup_iff.mpr List.nodup_range
            exact List.pairwise_iff_getElem.mp nd a b ha hb hab
          rw [ea, eb, keys3_get ia, keys3_get ib, lex_key3 (nums_ne hnd ia ib hne)] at z
          simpa using z
end
end K1

set_option linter.all false
set_option maxRecDepth 100000
set_option maxHeartbeats 4000000
namespace K1
open PySem L2 TO
abbrev sRight : Stmt := top 25
def hiV (w : Bool) : V := if w = true then .str "b" else .int 3
theorem hi_alike (w : Bool) (ρ : Row) : alikeV (lead w ρ) (hiV w) = true := by cases w <;> rfl
theorem hi_at (w : Bool) : atI [V.int 3, V.str "b"] (if decide (V.str (wordS w) = V.str "text") = true then 1 else 0) = some (hiV w) := by cases w <;> decide +kernel
def hi2 (w : Bool) (ρ : Row) (n : Nat) : V := if (n : Int) % 2 = 0 then lead w ρ else hiV w
theorem hi2_at (w : Bool) (ρ : Row) (n : Nat) : atI [lead w ρ, hiV w] ((n : Int) % 2) = some (hi2 w ρ n) := by
  rcases (show (n : Int) % 2 = 0 ∨ (n : Int) % 2 = 1 by omega) with e | e
  · rw [hi2, e]; exact atI_nat (j := 0) rfl
  · rw [hi2, e]; exact atI_nat (j := 1) rfl
theorem hi2_alike (w : Bool) (ρ : Row) (n : Nat) (x : Row) : alikeV (lead w x) (hi2 w ρ n) = true := by
  unfold hi2
  split
  · exact lead_alike w x ρ
  · exact hi_alike w x
theorem alike_comm {a b : V} (h : alikeV a b = true) : alikeV b a = true := by cases a <;> cases b <;> first | rfl | cases h
/-- a comprehension that keeps some rows of a list -/
theorem comp_filter {K : PySem.W.Frag} {a Da : Addr} {σ : L2.St} {js : List Nat} {tt : TT} {te : TE} {QQ : Hp → Prop} {H : Hp} {as : List Addr} {ρs : List Row} (p : Row → Bool) (ha : H a = some (.lst (as.map .ref))) (hR : RowsAt H as ρs) (hD : H Da = none) (hsz : ρs.length < 10000)
    (hs : ∀ r ρ H2 (Qb : Bool → Hp → Prop), Same H H2 → RowAt H2 r ρ → (∀ H3, Same H2 H3 → Qb (p ρ) H3) → tt (stComp σ js (some (.ref r))) H2 Qb)
    (he : ∀ r H2 (Q : VK), Q (.ref r) H2 → te (stComp σ js (some (.ref r))) H2 Q)
    (hd : ∀ H', Same H H' → LstAt H' Da (ρs.filter p) → QQ H') : ∃ W : Nat → Nat → Hp → Prop, (∃ m, W 0 m (upd H Da (.lst []))) ∧ CompW (Itl K a) Da σ js tt te QQ W := by
  have hlen := hR.len
  refine comp_list (K := K) (xs := as.map V.ref) (fun i ys H5 => Same H H5 ∧ ∃ bs : List Addr, ys = bs.map V.ref ∧ RowsAt H5 bs ((ρs.take i).filter p)) ⟨Same.upd_new hD, [], rfl, .nil⟩ (fun i ys H5 _ _ h => SqL.of (h.1 _ _ ha)) ?_ ?_
  · rintro i v ys H5 hi hD5 ⟨s5, bs, rfl, hb⟩
    rw [List.getElem?_map] at hi
    cases e : as[i]? with
    | none => rw [e] at hi; cases hi
    | some r =>
      rw [e] at hi
      obtain rfl : V.ref r = v := Option.some.inj hi
      obtain ⟨ρ, hρ, hr⟩ := hR.get' e
      refine hs r ρ H5 _ s5 (s5 _ _ hr) fun H6 s6 => ?_
      have et : ρs.take (i + 1) = ρs.take i ++ [ρ] := by rw [List.take_add_one, hρ]; rfl
      refine ite2 (fun c => ?_) (fun c => ?_)
      · refine he r H6 _ ⟨s6 _ _ hD5, ?_, fun b u hb => ?_, bs ++ [r], by rw [List.map_append]; rfl, ?_⟩
        · have := hb.len
          have h2 := List.length_filter_le p (ρs.take i)
          rw [List.length_take] at h2
          rw [List.length_map]
          exact Nat.lt_of_lt_of_le (m := 10000) (by omega) (by decide)
        · rw [upd_ne (ne_of_none hb hD)]
          exact s6 _ _ (s5 _ _ hb)
        · rw [et, List.filter_append, List.filter_cons, if_pos c, List.filter_nil]
          exact (RowsAt.app (hb.same fun b xs q => s6 _ _ q) (.cons (s6 _ _ (s5 _ _ hr)) .nil)).same (NoTup.keep (NoTup.lst (s6 _ _ hD5)))
      · refine ⟨s6 _ _ hD5, s5.trans s6, bs, rfl, ?_⟩
        rw [et, List.filter_append, List.filter_cons, if_neg c, List.filter_nil, List.append_nil]
        exact hb.same fun b xs q => s6 _ _ q
  · rintro ys H5 hD5 ⟨s5, bs, rfl, hb⟩
    rw [List.length_map, hlen, List.take_of_length_le (Nat.le_refl _)] at hb
    exact hd H5 s5 ⟨bs, hD5, hb⟩
section
variable {P : Program} {w : World} {K : PySem.W.Frag} {mg : Str → Option Value} {base : Heap}
def spRight (C : Addr) : Sp := fun vs H Q _ => ∃ (w : Bool) (o bl r a : Addr) (bas : List Addr) (B : List (List Row)) (ρs : List Row) (ρ : Row), vs = [.ref o, .ref r, .int (spotI w), .ref a, .str (wordS w)] ∧ OrdAt C w H o bl bas B ∧ GoodB w B ∧ LstAt H r ρs ∧ B.flatten.Perm ρs ∧ (ρs.map (·.n)).Nodup ∧ ρs.length < 64 ∧ RowAt H a ρ ∧
  ∀ (H' : Hp), Same H H' → Q (.bl true) H'
theorem scRight : FnScope ["_law_order", "_law_there", "_law_spot", "_law_row", "_law_word", "_law_due", "_law_ahead", "_law_key", "_law_lower", "_law_low", "_law_high", "_law_some"] ["_law_order", "_law_there", "_law_spot", "_law_row", "_law_word"] (defScope sRight) := ⟨rfl, rfl, rfl, by decide +kernel, rfl, by decide +kernel, by decide +kernel⟩
theorem ok_right {f fSB fS fGB fW fRo fAh fBt C : Addr} {fd fdSB fdS fdGB fdW fdRo fdAh fdBt : FuncData} (F : Fun K "_law_order_right" "_law_order_right" sRight f fd) (T : Txt K mg C) (B' : Bt mg)
    (gSB : Gf K mg "_law_sorted_by" fSB fdSB ["_law_rows", "_law_spot"]) (GSB : FnOk P w K mg base CX0 1 fSB fdSB ["_law_rows", "_law_spot"] spSortBy) (gS : Gf K mg "_law_same" fS fdS ["_law_found", "_law_due"]) (GS : FnOk P w K mg base CX0 2 fS fdS ["_law_found", "_law_due"] spSame)
    (gGB : Gf K mg "_law_good_blocks" fGB fdGB ["_law_blocks", "_law_due"]) (GGB : FnOk P w K mg base CX0 4 fGB fdGB ["_law_blocks", "_law_due"] spGoodBl) (gW : Gf K mg "_law_whole" fW fdW ["_law_found"]) (GW : FnOk P w K mg base CX0 1 fW fdW ["_law_found"] spWhole)
    (mRo : Mf K C "rows" fRo fdRo ["self"]) (GRo : FnOk P w K mg base CX0 1 fRo fdRo ["self"] (spRows C)) (mAh : Mf K C "ahead_of" fAh fdAh ["self", "row"]) (GAh : FnOk P w K mg base CX0 4 fAh fdAh ["self", "row"] (spAhead C))
    (mBt : Mf K C "between" fBt fdBt ["self", "low", "high"]) (GBt : FnOk P w K mg base CX0 4 fBt fdBt ["self", "low", "high"] (spBetw C)) :
    FnOk P w K mg base CX0 5 f fd ["_law_order", "_law_there", "_law_spot", "_law_row", "_law_word"] (spRight C) := by
  refine F.ok scRight (fun vs H Q E h => ?_) (fun cdv A outer s H vs Q E hr h => ?_)
  · obtain ⟨w, o, bl, r, a, bas, B, ρs, ρ, rfl, _⟩ := h
    rfl
  · obtain ⟨w, o, bl, r, a, bas, B, ρs, ρ, rfl, O, G, hr0, hperm, hnd, hlt, ha, fin⟩ := h
    obtain ⟨⟨dx, ho⟩, hbl, hbs, hnb⟩ := id O
    obtain ⟨as, hrl, hR⟩ := id hr0
    have hr1 : Room 1 _ := hr.mono (by decide)
    have hr2 : Room 2 _ := hr.mono (by decide)
    have hu := hr.units0
    refine ⟨_, pss_cons (ps_set (i := 5) scRight.nd rfl (Or.inl rfl) (pe_call GSB hr1 rfl gSB.mg gSB.kp gSB.b .nil pass0 (pa_cons (pv 1) (pa_cons (pv 2) pa_nil))))
      (pss_cons (ps_if (PW.pt (pw_or (pt_not (pt_val (pe_call GS hr2 rfl gS.mg gS.kp gS.b .nil pass0 (pa_cons (pe_meth0 (pv 0) T.cl mRo.m GRo hr1 mRo.b .nil pass0) (pa_cons (pv 5) pa_nil))))) (pw_or1 (pt_not (pt_val (pe_call GGB hr rfl gGB.mg gGB.kp gGB.b .nil pass0 (pa_cons (pe_fld (pv 0) rfl) (pa_cons (pv 5) pa_nil)))))))) (pss_one (ps_ret pe_bl)) pss_nil)
      (pss_cons (ps_set (i := 6) scRight.nd rfl (Or.inl rfl) (pe_meth (pv 0) T.cl mAh.m GAh hr mAh.b .nil pass0 (pa_cons (pv 3) pa_nil)))
      (pss_cons (ps_set (i := 7) scRight.nd rfl (Or.inr rfl) (pe_tup (pa_cons (pe_ix ix_tup (pv 3) (pv 2) (fun _ _ => rfl)) (pa_cons (pe_ix ix_tup (pv 3) pe_int (fun _ _ => rfl)) pa_nil))))
      (pss_cons (ps_setComp (k := 8) (x := "_law_one") (fns := ["_law_spot", "_law_key"]) (js := [2, 7]) rfl
        ⟨rfl, by decide +kernel, by decide +kernel, rfl, by decide +kernel, by decide +kernel, rfl, by simp [Env.kindOf]; exact ⟨rfl, rfl⟩, rfl, by decide +kernel⟩
        (pi_list (pv 1)) (fun _ _ _ _ => pifs_one (pt_cmpR (op_ltTVK K hu) (pe_tup (pa_cons (pe_ix (ix_tupK K) (pv 0) (pv 1) (fun _ _ => rfl)) (pa_cons (pe_ix (ix_tupK K) (pv 0) pe_int (fun _ _ => rfl)) pa_nil))) (pv 2) (nomark _)))
        (fun _ _ _ _ => pv 0) scRight.nd rfl (Or.inl rfl))
      (pss_cons (ps_if (PW.pt (pw_or (pt_not (pt_val (pe_call GW hr1 rfl gW.mg gW.kp gW.b .nil pass0 (pa_cons (pv 6) pa_nil)))) (pw_or1 (pt_cmpR op_ne (pv 6) (pe_callB call_len_seq (by rfl) B'.len PySem.boot_len (pa_cons (pv 8) pa_nil)) (nomark _))))) (pss_one (ps_ret pe_bl)) pss_nil)
      (pss_cons (ps_set (i := 9) scRight.nd rfl (Or.inr rfl) (pe_ix ix_tup (pv 3) (pv 2) (fun _ _ => rfl)))
      (pss_cons (ps_set (i := 10) scRight.nd rfl (Or.inr rfl) (pe_ix ix_list (pe_lst (pa_cons (pv 9) (pa_cons (pe_ix ix_list (pe_lst (pa_cons pe_int (pa_cons pe_str pa_nil))) (pe_callTy call_int1 (by rfl) B'.int b_int (pa_cons (pe_cmpR op_eq (pv 4) pe_str (nomark _)) pa_nil)) (fun _ _ => rfl)) pa_nil))) (pe_op op_mod (pv 6) pe_int) (fun _ _ => rfl)))
      (pss_cons (ps_setComp (k := 11) (x := "_law_one") (fns := ["_law_spot", "_law_low"]) (js := [2, 9]) rfl
        ⟨rfl, by decide +kernel, by decide +kernel, rfl, by decide +kernel, by decide +kernel, rfl, by simp [Env.kindOf]; exact ⟨rfl, rfl⟩, rfl, by decide +kernel⟩
        (pi_list (pv 5)) (fun _ _ _ _ => pifs_one (pt_cmpR op_leV (pv 2) (pe_ix (ix_tupK K) (pv 0) (pv 1) (fun _ _ => rfl)) (nomark _)))
        (fun _ _ _ _ => pv 0) scRight.nd rfl (Or.inl rfl))
      (pss_cons (ps_setComp (k := 11) (x := "_law_one") (fns := ["_law_spot", "_law_high"]) (js := [2, 10]) rfl
        ⟨rfl, by decide +kernel, by decide +kernel, rfl, by decide +kernel, by decide +kernel, rfl, by simp [Env.kindOf]; exact ⟨rfl, rfl⟩, rfl, by decide +kernel⟩
        (pi_list (pv 11)) (fun _ _ _ _ => pifs_one (pt_cmpR op_leV (pe_ix (ix_tupK K) (pv 0) (pv 1) (fun _ _ => rfl)) (pv 2) (nomark _)))
        (fun _ _ _ _ => pv 0) scRight.nd rfl (Or.inl rfl))
      (pss_one (ps_ret (pe_call GS hr2 rfl gS.mg gS.kp gS.b .nil pass0 (pa_cons (pe_meth (pv 0) T.cl mBt.m GBt hr mBt.b .nil pass0 (pa_cons (pv 9) (pa_cons (pv 10) pa_nil))) (pa_cons (pv 11) pa_nil)))))))))))))), ?_⟩
    have hn0 : B.flatten.length < 10000 := by rw [hperm.length_eq]; omega
    refine ⟨_, rfl, _, rfl, w, r, ρs, rfl, hr0, hnd, hlt, fun d κs H1 hd s1 hd1 hκ hsκ => ?_⟩
    obtain rfl : κs = B.flatten := Srt.one (ltR_irrefl w) (ltR_trans w) hsκ G.srt (hκ.trans hperm.symm)
    have O1 := O.same s1
    refine ⟨_, rfl, o, dx, _, rfl, s1 _ _ ho, oflds_no _ _ (by decide +kernel) (by decide +kernel), w, o, bl, bas, B, rfl, O1, hn0, fun l1 H2 hl1 s2 hl2 => ?_⟩
    have s02 := s1.trans s2
    refine ⟨_, rfl, .lst (B.flatten.map rowD), _, _, rfl, hl2.bears, (hd1.sameS s2).bears, by simp only [D.wt, rows_wt]; omega, fun H3 s3 => ?_⟩
    have s03 := s02.trans s3
    refine ⟨_, rfl, ?_⟩
    refine ⟨_, rfl, o, C, dx, _, _, rfl, s03 _ _ ho, T.cl, T.nB, oflds_blocks _ _, ?_⟩
    refine ⟨_, rfl, bl, d, bas, B, rfl, s03 _ _ hbl, (O.same s03).bs, G.adj, hd1.sameS (s2.trans s3), hn0, fun H4 s4 => ?_⟩
    have s04 := s03.trans s4
    refine ⟨_, rfl, ?_⟩
    refine ⟨_, rfl, o, dx, _, rfl, s04 _ _ ho, oflds_no _ _ (by decide +kernel) (by decide +kernel), _, rfl, w, o, bl, a, bas, B, ρ, rfl, O.same s04, s04 _ _ ha, G, hn0, fun H5 s5 => ?_⟩
    have s05 := s04.trans s5
    refine ⟨_, rfl, _, rfl, a, _, _, _, rfl, rfl, SqT.of (s05 _ _ ha), spot_at w ρ, _, rfl, a, _, _, _, rfl, rfl, SqT.of (s05 _ _ ha), atI_nat (j := 0) rfl, by show 2 ≤ sizeLine; decide, fun kk hkk => ?_⟩
    have s6 : Same H5 (upd H5 kk (.tup [lead w ρ, .int ρ.n])) := Same.upd_new hkk
    have s06 := s05.trans s6
    refine ⟨_, rfl, r, rfl, ⟨_, SqL.of (s06 _ _ hrl)⟩, fun La hLa => comp_filter (fun x => ltR w x ρ) (s06 _ _ hrl) (hR.same fun b xs q => s06 _ _ q) hLa (by omega) ?_ (fun r H2 Q q => ⟨_, rfl, q⟩) fun H7 s7 hL7 => ?_⟩
    · intro r1 ρ1 H7 Qb s7 hr1 q
      refine ⟨_, rfl, _, rfl, r1, _, _, _, rfl, rfl, SqT.of hr1, spot_at w ρ1, _, rfl, r1, _, _, _, rfl, rfl, SqT.of hr1, atI_nat (j := 0) rfl, by show 2 ≤ sizeLine; decide, fun t ht => ?_⟩
      have s8 : Same H7 (upd H7 t (.tup [lead w ρ1, .int ρ1.n])) := Same.upd_new ht
      refine ⟨_, rfl, t, kk, _, _, rfl, rfl, SqT.of upd_same, SqT.of (s8 _ _ (s7 _ _ upd_same)), key_alike w ρ1 ρ, _, rfl, q _ s8⟩
    have s07 := s06.trans s7
    refine ⟨_, rfl, _, rfl, _, rfl, ?_⟩
    have hcnt : (B.flatten.filter fun x => ltR w x ρ).length = (ρs.filter fun x => ltR w x ρ).length := (hperm.filter _).length_eq
    obtain ⟨fs, hLf, hRf⟩ := id hL7
    refine ⟨_, rfl, _, rfl, La, _, rfl, .inl (SqL.of hLf), rfl, _, rfl, ?_⟩
    have hc2 : (!decide (V.int (((B.flatten.filter fun x => ltR w x ρ).length : Nat) : Int) = V.int (((fs.map V.ref).length : Nat) : Int))) = false := by
      rw [List.length_map, hRf.len, hcnt]; simp
    refine ite2 (fun c => absurd (c.symm.trans hc2) (by decide)) (fun c => ?_)
    refine ⟨_, rfl, _, rfl, a, _, _, _, rfl, rfl, SqT.of (s07 _ _ ha), spot_at w ρ, ?_⟩
    refine ⟨_, rfl, by show 2 ≤ sizeLine; decide, fun n1 hn1 => ?_⟩
    have s8 : Same H7 (upd H7 n1 (.lst [.int 3, .str "b"])) := Same.upd_new hn1
    have s08 := s07.trans s8
    refine ⟨_, rfl, rfl, .inr ⟨_, rfl, n1, _, _, hiV w, rfl, rfl, SqL.of upd_same, hi_at w, by show 2 ≤ sizeLine; decide, fun n2 hn2 => ?_⟩⟩
    have s9 := s08.trans (Same.upd_new (o := .lst [lead w ρ, hiV w]) hn2)
    refine ⟨_, rfl, _, _, rfl, rfl, (show (0 : Int) < 2 by decide), n2, _, _, _, rfl, rfl, SqL.of upd_same, hi2_at w ρ _, ?_⟩
    generalize hhi : hi2 w ρ (B.flatten.filter fun x => ltR w x ρ).length = hi
    have ahi : ∀ x, alikeV (lead w x) hi = true := fun x => by rw [← hhi]; exact hi2_alike w ρ _ x
    have s79 : Same H1 _ := (((s2.trans s3).trans (s4.trans s5)).trans ((s6.trans s7).trans s8)).trans (Same.upd_new (o := .lst [lead w ρ, hiV w]) hn2)
    have hd9 := hd1.sameS s79
    obtain ⟨ds, hdl, hdR⟩ := id hd9
    refine ⟨_, rfl, d, rfl, ⟨_, SqL.of hdl⟩, fun Lb hLb => comp_filter (fun x => !ltV (lead w x) (lead w ρ)) hdl hdR hLb hn0 ?_ (fun r H2 Q q => ⟨_, rfl, q⟩) fun H10 s10 hL10 => ?_⟩
    · intro r1 ρ1 H10 Qb s10 hr1 q
      exact ⟨_, rfl, _, rfl, _, rfl, r1, _, _, _, rfl, rfl, SqT.of hr1, spot_at w ρ1, lead_alike w ρ ρ1, _, rfl, q _ (Same.refl _)⟩
    obtain ⟨es, hel, heR⟩ := id hL10
    refine ⟨_, rfl, Lb, rfl, ⟨_, SqL.of hel⟩, fun Lc hLc => comp_filter (fun x => !ltV hi (lead w x)) hel heR hLc (Nat.lt_of_le_of_lt (List.length_filter_le _ _) hn0) ?_ (fun r H2 Q q => ⟨_, rfl, q⟩) fun H11 s11 hL11 => ?_⟩
    · intro r1 ρ1 H11 Qb s11 hr1 q
      exact ⟨_, rfl, _, rfl, r1, _, _, _, rfl, rfl, SqT.of hr1, spot_at w ρ1, _, rfl, ahi ρ1, _, rfl, q _ (Same.refl _)⟩
    have s011 := (s9.trans s10).trans s11
    refine ⟨_, rfl, o, dx, _, rfl, s011 _ _ ho, oflds_no _ _ (by decide +kernel) (by decide +kernel), _, rfl, _, rfl, w, o, bl, bas, B, lead w ρ, hi, rfl, O.same s011, fun x => lead_alike w x ρ, ahi, G, hn0, fun l3 H12 hl3 s12 hL12 => ?_⟩
    have ef : (B.flatten.filter (fun x => !ltV (lead w x) (lead w ρ))).filter (fun x => !ltV hi (lead w x)) = B.flatten.filter (btw w (lead w ρ) hi) := by
      rw [List.filter_filter]
      congr 1
      funext x
      rw [btw, Bool.and_comm]
    rw [ef] at hL11
    refine ⟨_, rfl, .lst ((B.flatten.filter (btw w (lead w ρ) hi)).map rowD), _, _, rfl, hL12.bears, (hL11.sameS s12).bears, ?_, fun H13 s13 => fin H13 ((s011.trans s12).trans s13)⟩
    have := List.length_filter_le (btw w (lead w ρ) hi) B.flatten
    simp only [D.wt, rows_wt]
    omega
end
end K1

set_option linter.all false
set_option maxRecDepth 100000
set_option maxHeartbeats 4000000
namespace K1
open PySem L2 TO
abbrev sTexts : Stmt := top 18
abbrev sDrawn : Stmt := top 19
abbrev sFar : Stmt := top 20
abbrev sStep : Stmt := top 26
abbrev sRaised : Stmt := top 27
abbrev sRanked : Stmt := top 28
def txts : List Str := ["", "a", "ab", "b", "B", "~"]
theorem txt_small : ∀ {i : Nat} {t : Str}, txts[i]? = some t → t.length ≤ 2
  | 0, t, h => by obtain rfl := Option.some.inj h; decide
  | 1, t, h => by obtain rfl := Option.some.inj h; decide
  | 2, t, h => by obtain rfl := Option.some.inj h; decide
  | 3, t, h => by obtain rfl := Option.some.inj h; decide
  | 4, t, h => by obtain rfl := Option.some.inj h; decide
  | 5, t, h => by obtain rfl := Option.some.inj h; decide
  | n + 6, t, h => by simp [txts] at h
theorem txt_at (z : Int) : ∃ t : Str, atI (txts.map V.str) (z % 6) = some (.str t) ∧ t.length ≤ 2 := by
  have h1 := Int.emod_nonneg z (show (6 : Int) ≠ 0 by decide)
  have h2 := Int.emod_lt_of_pos z (show (0 : Int) < 6 by decide)
  obtain ⟨j, hj⟩ : ∃ j : Nat, z % 6 = (j : Int) := ⟨(z % 6).toNat, by omega⟩
  have hjl : j < txts.length := by show _ < 6; omega
  refine ⟨txts[j], ?_, txt_small (List.getElem?_eq_getElem hjl)⟩
  rw [hj]
  refine atI_nat ?_
  rw [List.getElem?_map, List.getElem?_eq_getElem hjl]
  rfl
def i1 (b : Bool) : Int := if b = true then 1 else 0
theorem i1_cases (b : Bool) : i1 b = 0 ∨ i1 b = 1 := by cases b <;> simp [i1]
theorem i1_nn (b : Bool) : 0 ≤ i1 b := by cases b <;> decide
theorem i1_mul (b : Bool) : -(2 ^ 64) < i1 b ∧ i1 b < 2 ^ 64 := by cases b <;> decide
def far (n : Int) : Int := if n = 25 then 10 ^ 20 else if n = 24 then 0 - 10 ^ 20 else n
def stepBy (s : Int) : Int := 1000 * (s / 7 % 10 ^ 27) * i1 (decide (V.int (s % 3) = V.int 1))
def raisedI (n s : Int) : Int := n + stepBy s * i1 (decide (9 < n))
theorem stepBy_nn (s : Int) : 0 ≤ stepBy s := Int.mul_nonneg (Int.mul_nonneg (by decide) (Int.emod_nonneg _ (by decide))) (i1_nn _)
theorem raised_lt {a b s : Int} (h : a < b) : raisedI a s < raisedI b s := by
  have := stepBy_nn s
  unfold raisedI i1
  by_cases h1 : 9 < a
  · have h2 : 9 < b := by omega
    simp only [h1, h2, decide_true, if_true]
    omega
  · simp only [h1, decide_false]
    by_cases h2 : 9 < b
    · simp only [h2, decide_true, if_true]
      have : (if false = true then (1 : Int) else 0) = 0 := rfl
      rw [this]
      omega
    · simp only [h2, decide_false]
      have : (if false = true then (1 : Int) else 0) = 0 := rfl
      rw [this]
      omega
theorem raised_inj {a b s : Int} (h : raisedI a s = raisedI b s) : a = b := by
  rcases Int.lt_trichotomy a b with q | q | q
  · have := raised_lt (s := s) q; omega
  · exact q
  · have := raised_lt (s := s) q; omega
theorem far_inj {a b : Int} (ha : 0 ≤ a ∧ a < 331) (hb : 0 ≤ b ∧ b < 331) (h : far a = far b) : a = b := by
  unfold far at h
  have e : (10 : Int) ^ 20 = 100000000000000000000 := by decide
  rw [e] at h
  split at h <;> split at h <;> (try split at h) <;> (try split at h) <;> omega
theorem far_at (n : Int) : atI [V.int n, V.int (10 ^ (20 : Int).toNat), V.int (0 - 10 ^ (20 : Int).toNat)] (i1 (decide (V.int n = V.int 25)) + 2 * i1 (decide (V.int n = V.int 24))) = some (V.int (far n)) := by
  unfold far
  by_cases h1 : n = 25
  · subst h1
    exact atI_nat (j := 1) rfl
  · by_cases h2 : n = 24
    · subst h2
      exact atI_nat (j := 2) rfl
    · have e1 : decide (V.int n = V.int 25) = false := decide_eq_false fun q => h1 (by injection q)
      have e2 : decide (V.int n = V.int 24) = false := decide_eq_false fun q => h2 (by injection q)
      rw [e1, e2, if_neg h1, if_neg h2]
      exact atI_nat (j := 0) rfl
section
variable {P : Program} {w : World} {K : PySem.W.Frag} {mg : Str → Option Value} {base : Heap}
def spTexts : Sp := fun vs H Q _ => vs = [] ∧ ∀ (l : Addr) (H' : Hp), H l = none → Same H H' → H' l = some (.lst (txts.map V.str)) → Q (.ref l) H'
theorem scTexts : FnScope [] [] (defScope sTexts) := ⟨rfl, rfl, rfl, by decide +kernel, rfl, by decide +kernel, by decide +kernel⟩
theorem ok_texts {f : Addr} {fd : FuncData} (F : Fun K "_law_texts" "_law_texts" sTexts f fd) : FnOk P w K mg base CX0 1 f fd [] spTexts := by
  refine F.ok scTexts (fun vs H Q E h => ?_) (fun cdv A outer s H vs Q E hr h => ?_)
  · obtain ⟨rfl, _⟩ := h
    rfl
  · obtain ⟨rfl, k⟩ := h
    refine ⟨_, pss_one (ps_ret (pe_lst (pa_cons pe_str (pa_cons pe_str (pa_cons pe_str (pa_cons pe_str (pa_cons pe_str (pa_cons pe_str pa_nil)))))))), ?_⟩
    exact ⟨by show 6 ≤ sizeLine; decide, fun l hl => k l _ hl (Same.upd_new hl) upd_same⟩
def spDrawn : Sp := fun vs H Q _ => ∃ (n c : Int), vs = [.int n, .int c] ∧ ∀ (a : Addr) (ρ : Row) (H' : Hp), H a = none → Same H H' → RowAt H' a ρ → ρ.n = n → ρ.t.length ≤ 2 → Q (.ref a) H'
theorem scDrawn : FnScope ["_law_number", "_law_cell", "_law_rank"] ["_law_number", "_law_cell"] (defScope sDrawn) := ⟨rfl, rfl, rfl, by decide +kernel, rfl, by decide +kernel, by decide +kernel⟩
theorem ok_drawn {f fT : Addr} {fd fdT : FuncData} (F : Fun K "_law_drawn_row" "_law_drawn_row" sDrawn f fd) (gT : Gf K mg "_law_texts" fT fdT []) (GT : FnOk P w K mg base CX0 1 fT fdT [] spTexts) : FnOk P w K mg base CX0 2 f fd ["_law_number", "_law_cell"] spDrawn := by
  refine F.ok scDrawn (fun vs H Q E h => ?_) (fun cdv A outer s H vs Q E hr h => ?_)
  · obtain ⟨n, c, rfl, _⟩ := h
    rfl
  · obtain ⟨n, c, rfl, k⟩ := h
    refine ⟨_, pss_cons (ps_set (i := 2) scDrawn.nd rfl (Or.inl rfl) (pe_op op_sub (pe_op op_mod (pv 1) pe_int) pe_int))
      (pss_cons (ps_if (pt_cmpR op_eq (pv 2) pe_int (nomark _)) (pss_one (ps_set (i := 2) scDrawn.nd rfl (Or.inl rfl) pe_int)) pss_nil)
      (pss_one (ps_ret (pe_tup (pa_cons (pv 0) (pa_cons (pv 2) (pa_cons (pe_ix ix_list (pe_call0 GT hr rfl gT.mg gT.kp gT.b .nil pass0) (pe_op op_mod (pe_op op_fdiv (pv 1) pe_int) pe_int) (fun _ _ => rfl)) pa_nil))))))), ?_⟩
    obtain ⟨t, ht, htl⟩ := txt_at (c / 8)
    refine ⟨_, rfl, _, _, rfl, rfl, (show (0 : Int) < 8 by decide), _, _, rfl, rfl, _, rfl, rfl, _, rfl, ?_⟩
    refine ite2 (fun q => ?_) (fun q => ?_)
    · refine ⟨_, rfl, _, rfl, rfl, fun l H1 hl s1 hl1 => ⟨_, rfl, _, _, rfl, rfl, ⟨by decide, by decide⟩, _, _, rfl, rfl, (show (0 : Int) < 6 by decide), l, _, _, _, rfl, rfl, SqL.of hl1, ht, by show 3 ≤ sizeLine; decide, fun a ha => ?_⟩⟩
      exact k a ⟨n, 1000000000000, t⟩ _ (s1.free ha) (s1.trans (Same.upd_new ha)) upd_same rfl htl
    · refine ⟨_, rfl, _, rfl, rfl, fun l H1 hl s1 hl1 => ⟨_, rfl, _, _, rfl, rfl, ⟨by decide, by decide⟩, _, _, rfl, rfl, (show (0 : Int) < 6 by decide), l, _, _, _, rfl, rfl, SqL.of hl1, ht, by show 3 ≤ sizeLine; decide, fun a ha => ?_⟩⟩
      exact k a ⟨n, c % 8 - 3, t⟩ _ (s1.free ha) (s1.trans (Same.upd_new ha)) upd_same rfl htl
def spFar : Sp := fun vs H Q _ => ∃ n, vs = [.int n] ∧ ∀ H', Same H H' → Q (.int (far n)) H'
theorem scFar : FnScope ["_law_number"] ["_law_number"] (defScope sFar) := ⟨rfl, rfl, rfl, by decide +kernel, rfl, by decide +kernel, by decide +kernel⟩
theorem ok_far {f : Addr} {fd : FuncData} (F : Fun K "_law_far" "_law_far" sFar f fd) (B : Bt mg) : FnOk P w K mg base CX0 1 f fd ["_law_number"] spFar := by
  refine F.ok scFar (fun vs H Q E h => ?_) (fun cdv A outer s H vs Q E hr h => ?_)
  · obtain ⟨n, rfl, _⟩ := h
    rfl
  · obtain ⟨n, rfl, k⟩ := h
    refine ⟨_, pss_one (ps_ret (pe_ix ix_list (pe_lst (pa_cons (pv 0) (pa_cons (pe_op op_pow pe_int pe_int) (pa_cons (pe_op op_sub pe_int (pe_op op_pow pe_int pe_int)) pa_nil))))
      (pe_op op_add (pe_callTy call_int1 (by rfl) B.int b_int (pa_cons (pe_cmpR op_eq (pv 0) pe_int (nomark _)) pa_nil)) (pe_op op_mul pe_int (pe_callTy call_int1 (by rfl) B.int b_int (pa_cons (pe_cmpR op_eq (pv 0) pe_int (nomark _)) pa_nil)))) (fun _ _ => rfl))), ?_⟩
    refine ⟨_, rfl, _, _, rfl, rfl, ⟨by decide, by decide, by decide⟩, _, _, rfl, rfl, ⟨by decide, by decide, by decide⟩, _, _, rfl, rfl, by show 3 ≤ sizeLine; decide, fun l hl => ?_⟩
    refine ⟨_, rfl, rfl, .inr ⟨_, rfl, _, rfl, rfl, .inr ⟨_, rfl, _, _, rfl, rfl, .inr (i1_mul _), _, _, rfl, rfl, l, _, _, _, rfl, rfl, SqL.of upd_same, far_at n, k _ (Same.upd_new hl)⟩⟩⟩
def spStep : Sp := fun vs H Q _ => ∃ n, vs = [.int n] ∧ Q (.int (stepBy n)) H
theorem scStep : FnScope ["_law_seed"] ["_law_seed"] (defScope sStep) := ⟨rfl, rfl, rfl, by decide +kernel, rfl, by decide +kernel, by decide +kernel⟩
theorem ok_step {f : Addr} {fd : FuncData} (F : Fun K "_law_step_by" "_law_step_by" sStep f fd) (B : Bt mg) : FnOk P w K mg base CX0 1 f fd ["_law_seed"] spStep := by
  refine F.ok scStep (fun vs H Q E h => ?_) (fun cdv A outer s H vs Q E hr h => ?_)
  · obtain ⟨n, rfl, _⟩ := h
    rfl
  · obtain ⟨n, rfl, k⟩ := h
    refine ⟨_, pss_one (ps_ret (pe_op op_mul (pe_op op_mul pe_int (pe_op op_mod (pe_op op_fdiv (pv 0) pe_int) (pe_op op_pow pe_int pe_int))) (pe_callTy call_int1 (by rfl) B.int b_int (pa_cons (pe_cmpR op_eq (pe_op op_mod (pv 0) pe_int) pe_int (nomark _)) pa_nil)))), ?_⟩
    refine ⟨_, rfl, _, _, rfl, rfl, ⟨by decide, by decide⟩, _, _, rfl, rfl, ⟨by decide, by decide, by decide⟩, _, _, rfl, rfl, (show (0 : Int) < 10 ^ 27 by decide), _, _, rfl, rfl, .inl ⟨by decide, by decide⟩, ?_⟩
    exact ⟨_, rfl, _, _, rfl, rfl, (show (0 : Int) < 3 by decide), rfl, .inr ⟨_, rfl, _, _, rfl, rfl, .inr (i1_mul _), k⟩⟩
def spRaised : Sp := fun vs H Q _ => ∃ n s, vs = [.int n, .int s] ∧ Q (.int (raisedI n s)) H
theorem scRaised : FnScope ["_law_number", "_law_seed"] ["_law_number", "_law_seed"] (defScope sRaised) := ⟨rfl, rfl, rfl, by decide +kernel, rfl, by decide +kernel, by decide +kernel⟩
theorem ok_raised {f fS : Addr} {fd fdS : FuncData} (F : Fun K "_law_raised" "_law_raised" sRaised f fd) (B : Bt mg) (gS : Gf K mg "_law_step_by" fS fdS ["_law_seed"]) (GS : FnOk P w K mg base CX0 1 fS fdS ["_law_seed"] spStep) : FnOk P w K mg base CX0 2 f fd ["_law_number", "_law_seed"] spRaised := by
  refine F.ok scRaised (fun vs H Q E h => ?_) (fun cdv A outer s H vs Q E hr h => ?_)
  · obtain ⟨n, s, rfl, _⟩ := h
    rfl
  · obtain ⟨n, sd, rfl, k⟩ := h
    refine ⟨_, pss_one (ps_ret (pe_op op_add (pv 0) (pe_op op_mul (pe_call GS hr rfl gS.mg gS.kp gS.b .nil pass0 (pa_cons (pv 1) pa_nil)) (pe_callTy call_int1 (by rfl) B.int b_int (pa_cons (pe_cmpR op_gt (pv 0) pe_int (nomark _)) pa_nil))))), ?_⟩
    exact ⟨_, rfl, _, rfl, _, rfl, _, rfl, _, _, rfl, rfl, .inr ⟨_, rfl, _, _, rfl, rfl, .inr (i1_mul _), _, _, rfl, rfl, k⟩⟩
def spRanked : Sp := fun vs H Q _ => ∃ n s, vs = [.int n, .int s] ∧ ∀ r, Q (.int r) H
theorem scRanked : FnScope ["_law_rank", "_law_seed"] ["_law_rank", "_law_seed"] (defScope sRanked) := ⟨rfl, rfl, rfl, by decide +kernel, rfl, by decide +kernel, by decide +kernel⟩
theorem ok_ranked {f fS : Addr} {fd fdS : FuncData} (F : Fun K "_law_ranked" "_law_ranked" sRanked f fd) (B : Bt mg) (gS : Gf K mg "_law_step_by" fS fdS ["_law_seed"]) (GS : FnOk P w K mg base CX0 1 fS fdS ["_law_seed"] spStep) : FnOk P w K mg base CX0 2 f fd ["_law_rank", "_law_seed"] spRanked := by
  refine F.ok scRanked (fun vs H Q E h => ?_) (fun cdv A outer s H vs Q E hr h => ?_)
  · obtain ⟨n, s, rfl, _⟩ := h
    rfl
  · obtain ⟨n, sd, rfl, k⟩ := h
    refine ⟨_, pss_one (ps_ret (pe_op op_add (pv 0) (pe_op op_mul (pe_call GS hr rfl gS.mg gS.kp gS.b .nil pass0 (pa_cons (pe_op op_fdiv (pv 1) pe_int) pa_nil)) (pe_callTy call_int1 (by rfl) B.int b_int (pa_cons (pe_cmpR op_gt (pv 0) pe_int (nomark _)) pa_nil))))), ?_⟩
    exact ⟨_, rfl, _, rfl, _, _, rfl, rfl, ⟨by decide, by decide⟩, _, rfl, _, rfl, _, _, rfl, rfl, .inr ⟨_, rfl, _, _, rfl, rfl, .inr (i1_mul _), _, _, rfl, rfl, k _⟩⟩
end
end K1

set_option linter.all false
set_option maxRecDepth 100000
set_option maxHeartbeats 4000000
namespace L2
open PySem PySem.Spec PyProof.Rows
section
variable {X : Cx}
/-- tokens grow -/
theorem tk {α : Type} {M : Model} {A : Around} {t : Sem α} {Q : α → Shared → Prop} {E : Value → Shared → Prop} {s : Shared} (h : wpAny M A t Q E s) : wpAny M A t (fun a s' => s.toks ≤ s'.toks ∧ Q a s') E s := wpAny_mono (wpAny_toks h) (fun _ _ x => x) fun _ _ x => x.2
/-- behind a first token -/
def PSs1 (X : Cx) (st : List Stmt) (t : TS) : Prop := ∀ (pins : List (Addr × Obj)) (s : Shared) (σ : St) (H : Hp) (D : Ends), Inv X pins σ H s → 0 < s.toks → t D σ H → wpAny (model X.prog X.w) X.A (execs st X.env) (SP X pins D) X.xe s
def PS1 (X : Cx) (st : Stmt) (t : TS) : Prop := ∀ (pins : List (Addr × Obj)) (s : Shared) (σ : St) (H : Hp) (D : Ends), Inv X pins σ H s → 0 < s.toks → t D σ H → wpAny (model X.prog X.w) X.A (exec st X.env) (SP X pins D) X.xe s
def PE1 (X : Cx) (e : Expr) (t : TE) : Prop := ∀ (pins : List (Addr × Obj)) (s : Shared) (σ : St) (H : Hp) (Q : VK), Inv X pins σ H s → 0 < s.toks → t σ H Q → wpAny (model X.prog X.w) X.A (eval e X.env) (EP X pins σ Q) X.xe s
def NewStr (n : Nat) (u : Value) : Prop := ∀ x t, u = .str x t → n ≤ t
/-- a str that it gives bears a new token -/
def PEF (X : Cx) (e : Expr) (t : TE) : Prop := ∀ (pins : List (Addr × Obj)) (s : Shared) (σ : St) (H : Hp) (Q : VK), Inv X pins σ H s → t σ H Q → wpAny (model X.prog X.w) X.A (eval e X.env) (fun u s' => NewStr s.toks u ∧ EP X pins σ Q u s') X.xe s
theorem PSs.one {st : List Stmt} {t : TS} (h : PSs X st t) : PSs1 X st t := fun pins s σ H D I _ q => h pins s σ H D I q
theorem pss1_cons {st : Stmt} {rest : List Stmt} {t u : TS} (h1 : PS1 X st t) (h2 : PSs1 X rest u) : PSs1 X (st :: rest) (tSeq t u) := by
  intro pins s σ H D I h0 h
  refine wpAny_execs_cons (thn (tk (h1 pins s σ H { D with nx := u D } I h0 h)) fun f s1 ⟨le, q⟩ => ?_)
  cases f with
  | next =>
    obtain ⟨σ', H', I', q⟩ := q
    exact h2 pins s1 σ' H' D I' (Nat.lt_of_lt_of_le h0 le) q
  | ret v => exact q
  | brk => exact q
  | cont => exact q
theorem pss_first {i : Nat} {x c : Str} {k : Nat} {pos pos' pc : Pos} {rest : List Stmt} {u : TS} (hN : X.N.Nodup) (hi : X.N[i]? = some x) (hx : Loc X.env.scope x) (h2 : PSs1 X rest u)
    (hs : swapsWith (.Constant (.str c) k pc) (some (.Name x pos')) pos.line X.env = pure false := by rfl) (hf : X.fn x = true ∨ X.env.scope.names.lookup x = some .local := by first | exact .inl rfl | exact .inr rfl | assumption) :
    PSs X (.Assign [.Name x pos'] (.Constant (.str c) k pc) pos :: rest) (tSeq (tAsg (tC (.str c)) (gName i)) u) := by
  intro pins s σ H D I h
  refine wpAny_execs_cons (wpAny_Assign_Name (Calls.Constant_str ?_) hs)
  refine thn (tk (store_ok (v := .str c) (Q := fun _ s' => ∃ σ' H', Inv X pins σ' H' s' ∧ u D σ' H') (I.tok (s.toks + 1)) hN hi hx ⟨_, rfl⟩ (fun s2 I2 => ⟨_, H, I2, h⟩) hf)) fun _ s2 ⟨le, σ', H', I', q⟩ => ?_
  exact h2 pins s2 σ' H' D I' (Nat.lt_of_lt_of_le (Nat.succ_pos _) le) q
theorem ps1_set {i : Nat} {x : Str} {e : Expr} {te : TE} {pos pos' : Pos} (hN : X.N.Nodup) (hi : X.N[i]? = some x) (hx : Loc X.env.scope x) (he : PE1 X e te) (hs : swapsWith e (some (.Name x pos')) pos.line X.env = pure false := by rfl) (hf : X.fn x = true ∨ X.env.scope.names.lookup x = some .local := by first | exact .inl rfl | exact .inr rfl | assumption) :
    PS1 X (.Assign [.Name x pos'] e pos) (tAsg te (gName i)) := by
  intro pins s σ H D I h0 h
  refine wpAny_Assign_Name (thn (he pins s σ H _ I h0 h) fun v s1 ⟨y, H1, I1, r1, q1⟩ => ?_) hs
  exact store_ok I1 hN hi hx r1 (fun s2 I2 => ⟨_, H1, I2, q1⟩) hf
theorem pef_ixS {a b : Expr} {ta tb : TE} {pos : Pos} (ha : PE X a ta) (hb : PE X b tb) (hs : PlainIx b) : PEF X (.Subscript a b pos) (tOp rIxS ta tb) := by
  intro pins s σ H Q I h
  refine Subscript_ (thn (tk (ha pins s σ H _ I h)) fun v s1 ⟨l1, x, H1, I1, r1, q1⟩ => thn (tk (hb pins s1 σ H1 _ I1 q1)) fun u s2 ⟨l2, y, H2, I2, r2, q2⟩ => ?_)
  obtain ⟨z, i, c, rfl, rfl, hz, he, q⟩ := q2
  obtain ⟨t, rfl⟩ := r1
  obtain ⟨t', rfl⟩ := r2
  obtain ⟨j, h1, h2, h3, h4, h5⟩ := atI_get he
  have hl : z.cps.toList.length = z.length := by simp [Str.length]
  rw [hl] at h1 h4 h5
  have hn := line63
  exact tail_any (typeIs_str s2 z t) slot_str_getitem.lookup (getItem_str (c := c) (by
    have e1 : decide (i < -(2 ^ 63 : Int)) = false := decide_eq_false (by omega)
    have e2 : decide (i ≥ 2 ^ 63) = false := decide_eq_false (by omega)
    rw [e1, e2, Bool.or_false]) (by rw [h1]; simpa using h2) ⟨fun x t e => by cases e; omega, .str ⟨#[c]⟩, H2, I2.tok _, ⟨_, rfl⟩, q⟩) (hs _ _)
theorem rep_len (x : Str) : ∀ (n : Nat) (acc : Array Nat), ((List.replicate n x.cps).foldl (· ++ ·) acc).size = acc.size + x.length * n
  | 0, acc => by simp
  | n + 1, acc => by
    rw [List.replicate_succ, List.foldl_cons, rep_len x n]
    have e : x.length = x.cps.size := rfl
    simp only [Array.size_append, Nat.mul_succ]
    omega
def rMulS : R2 := fun x y H Q => ∃ z n, x = .str z ∧ y = .int n ∧ 1 ≤ n ∧ n ≤ 1000 ∧ z.length ≤ 1000 ∧ ∀ z' : Str, z'.length ≤ z.length * n.toNat → Q (.str z') H
theorem pef_mul {a b : Expr} {ta tb : TE} {pos : Pos} (ha : PEF X a ta) (hb : PE X b tb) : PEF X (.BinOp a .Mult b pos) (tOp rMulS ta tb) := by
  intro pins s σ H Q I h
  refine wpAny_BinOp (thn (tk (ha pins s σ H _ I h)) fun v s1 ⟨l1, n1, x, H1, I1, r1, q1⟩ => thn (tk (hb pins s1 σ H1 _ I1 q1)) fun u s2 ⟨l2, y, H2, I2, r2, q2⟩ => ?_)
  obtain ⟨z, n, rfl, rfl, hn1, hn2, hz, q⟩ := q2
  obtain ⟨t, rfl⟩ := r1
  obtain ⟨t', rfl⟩ := r2
  have hm : z.length * n.toNat ≤ 1000 * 1000 := Nat.mul_le_mul hz (by omega)
  refine PySem.P.mul_str ?_ (fun _ _ => ?_) (fun _ _ => ?_) ?_
  · have e1 : decide (n < -(2 ^ 63 : Int)) = false := decide_eq_false (by omega)
    have e2 : decide (n ≥ 2 ^ 63) = false := decide_eq_false (by omega)
    rw [e1, e2, Bool.or_false]
  · intro c
    have h1 : (z.length : Int) * n < 2 ^ 63 - 1 := by
      have : ((z.length * n.toNat : Nat) : Int) ≤ 1000 * 1000 := by exact_mod_cast hm
      rw [Int.natCast_mul] at this
      have e : ((n.toNat : Nat) : Int) = n := by omega
      rw [e] at this
      omega
    have h2 : (z.length : Int) ≤ (2 ^ 63 - 1) / n := (Int.le_ediv_iff_mul_le (by omega)).mpr (by omega)
    omega
  · unfold PySem.Builtin.Str.tooLong
    refine decide_eq_false ?_
    have : (1000 * 1000 : Nat) < sizeLine := by decide
    omega
  · rw [if_neg (by omega)]
    by_cases c : (n == 1 || z.length == 0) = true
    · rw [if_pos c]
      refine ⟨fun x t e => by cases e; exact n1 _ _ rfl, .str z, H2, I2, ⟨_, rfl⟩, q z ?_⟩
      exact Nat.le_mul_of_pos_right _ (by omega)
    · rw [if_neg c]
      have hl : (⟨(List.replicate n.toNat z.cps).foldl (· ++ ·) #[]⟩ : Str).length = z.length * n.toNat := by
        show ((List.replicate n.toNat z.cps).foldl (· ++ ·) #[]).size = _
        rw [rep_len]; simp
      refine ⟨?_, fun x t e => by cases e; omega, .str _, H2, I2.tok _, ⟨_, rfl⟩, q _ (Nat.le_of_eq hl)⟩
      rw [hl]
      exact Nat.le_trans hm (by decide)
/-- an item of a list of three written strs -/
def tItem3 (z1 z2 z3 : Str) (tb : TE) : TE := fun σ H Q => tb σ H fun y H1 => ∃ i, y = .int i ∧ 0 ≤ i ∧ i < 3 ∧ Q (.str z1) H1 ∧ Q (.str z2) H1 ∧ Q (.str z3) H1
theorem pef_item3 {z1 z2 z3 : Str} {k1 k2 k3 : Nat} {p1 p2 p3 pl pos : Pos} {b : Expr} {tb : TE} (hb : PE X b tb) (hs : PlainIx b) :
    PEF X (.Subscript (.List [.Constant (.str z1) k1 p1, .Constant (.str z2) k2 p2, .Constant (.str z3) k3 p3] pl) b pos) (tItem3 z1 z2 z3 tb) := by
  intro pins s σ H Q I h
  refine Subscript_ (wpAny_List_spliced ?_)
  refine Calls.spliced_cons (Calls.Constant_str (k := k1) (pos := p1) (Calls.spliced_cons (Calls.Constant_str (k := k2) (pos := p2) (Calls.spliced_cons (Calls.Constant_str (k := k3) (pos := p3) (Calls.spliced_nil ⟨by show 3 ≤ sizeLine; decide, ?_⟩))))))
  let o : Obj := { cls := .type "list", data := .seq [Value.str z1 s.toks, Value.str z2 (s.toks + 1), Value.str z3 (s.toks + 1 + 1)].toArray }
  have I1 : Inv X pins σ H { s with heap := s.heap.push o, toks := s.toks + 1 + 1 + 1 } := I.kept fun b u e => Heap.get?_push_of_some _ e
  have hg : (s.heap.push o).get? s.heap.objs.size = some o := Heap.get?_push_size _ rfl
  have I2 : Inv X (pins ++ [(s.heap.objs.size, o)]) σ H { s with heap := s.heap.push o, toks := s.toks + 1 + 1 + 1 } := I1.pins_of fun p hp => (List.mem_append.mp hp).elim (fun z => I1.pin p (List.mem_append_right _ z)) fun z => by
    obtain rfl : p = (s.heap.objs.size, o) := by simpa using z
    exact ⟨hg, I.hok.fresh (Nat.le_refl _), Nat.ne_of_gt I.lt, I.nofs (Nat.le_refl _), fun v e => nomatch e⟩
  refine thn (hb _ _ σ H _ I2 h) fun u s2 ⟨y, H2, I3, r2, q2⟩ => ?_
  obtain ⟨i, rfl, h0, h3, qa, qb, qc⟩ := q2
  obtain ⟨t', rfl⟩ := r2
  have pO := (I3.pin (s.heap.objs.size, o) (by simp)).1
  have hL : s2.heap.IsList s.heap.objs.size [Value.str z1 s.toks, Value.str z2 (s.toks + 1), Value.str z3 (s.toks + 1 + 1)].toArray := ⟨o, pO, rfl, _, rfl⟩
  have I4 := I3.unpinned
  rcases (show i = 0 ∨ i = 1 ∨ i = 2 by omega) with rfl | rfl | rfl
  · exact item_listR (Q := fun u s' => NewStr s.toks u ∧ EP X pins σ Q u s') hL (by decide) (by decide) rfl ⟨fun x t e => by cases e; omega, .str z1, H2, I4, ⟨_, rfl⟩, qa⟩ (hs _ _)
  · exact item_listR (Q := fun u s' => NewStr s.toks u ∧ EP X pins σ Q u s') hL (by decide) (by decide) rfl ⟨fun x t e => by cases e; omega, .str z2, H2, I4, ⟨_, rfl⟩, qb⟩ (hs _ _)
  · exact item_listR (Q := fun u s' => NewStr s.toks u ∧ EP X pins σ Q u s') hL (by decide) (by decide) rfl ⟨fun x t e => by cases e; omega, .str z3, H2, I4, ⟨_, rfl⟩, qc⟩ (hs _ _)
/-- o.replace("c", e) -/
def tRepl (m : Nat) (to te : TE) : TE := fun σ H Q => to σ H fun x H1 => ∃ xs, x = .str xs ∧ te σ H1 fun z H2 => ∃ zs, z = .str zs ∧ xs.length + (xs.length + 1) * zs.length ≤ m ∧ m ≤ 16777216 ∧ ∀ r : Str, r.length ≤ m → Q (.str r) H2
theorem repl_len {x y z : Str} {m : Nat} (h : x.length + (x.length + 1) * z.length ≤ m) : (Txt.replace x y z).length ≤ m := by
  unfold Txt.replace
  split
  · omega
  · have h1 := StrLaws.occ_length_le x y 0 x.length (x.length + 1)
    have hy : (Builtin.Str.glued y (Builtin.Str.partsBetween x (Builtin.Str.occurrences x y 0 x.length (x.length + 1)) y.length)).length = x.length := by rw [StrLaws.glued_between_self]
    rw [size_glued, length_partsBetween, Nat.add_sub_cancel] at hy
    rw [size_glued, length_partsBetween, Nat.add_sub_cancel]
    have h2 : (Builtin.Str.occurrences x y 0 x.length (x.length + 1)).length * z.length ≤ (x.length + 1) * z.length := Nat.mul_le_mul_right _ h1
    omega
theorem pe1_replace {m : Nat} {o e : Expr} {to te : TE} {c : Str} {k : Nat} {apos cpos pc : Pos} (nb : PySem.W.nsIn X.K cStatics sharingNotToldKey = some none) (ho : PE X o to) (he : PEF X e te)
    (hbase : attributeBase o "replace" X.env (eval o X.env) = eval o X.env := by rfl)
    (hfew : ((backTo cpos (starEach [.Constant (.str c) k pc, e] X.env)).all (fun x => !x.1) && (backToKw cpos (keywordEach [] X.env)).all (fun x => x.1.isSome)
      && decide (([.Constant (.str c) k pc, e] : List Expr).length + ([] : List Keyword).length + (if ([] : List Keyword).isEmpty then 0 else 1) < 30)) = true := by rfl)
    (hline : (apos.endLine == cpos.line) = true := by rfl) (hs : starEach [.Constant (.str c) k pc, e] X.env = [(false, eval (.Constant (.str c) k pc) X.env), (false, eval e X.env)] := by rfl) :
    PE1 X (.Call (.Attribute o "replace" apos) [.Constant (.str c) k pc, e] [] cpos) (tRepl m to te) := by
  intro pins s σ H Q I h0 h
  refine wpAny_Call_method_late hbase hfew hline rfl (thn (tk (ho pins s σ H _ I h)) fun v s1 ⟨l1, x, H1, I1, r1, xs, ex, q1⟩ => ?_)
  subst ex
  obtain ⟨t, rfl⟩ := r1
  refine ⟨"str", _, F.plainAttrs_str, F.slot_str_replace, F.type_str_replace, typeIs_str _ _ _, (fun _ e => nomatch e), ?_⟩
  rw [hs]
  refine Calls.callWith_builtin rfl (Calls.evalArgs_plain (Calls.spliced_cons (Calls.Constant_str (k := k) (pos := pc) (Calls.spliced_cons ?_))))
  refine thn (he pins _ σ H1 _ (I1.tok _) q1) fun u s2 ⟨n2, z, H2, I2, r2, zs, ez, hb, hm, q2⟩ => ?_
  subst ez
  obtain ⟨t2, rfl⟩ := r2
  have hn := n2 _ _ rfl
  refine Calls.spliced_nil ?_
  have NB : NoneBooked s2.heap := by
    obtain ⟨mc, h1, _⟩ := I2.nolimit
    exact ⟨mc, h1, PySem.W.ns_none_of I2.kIn h1 nb⟩
  have a1 : 0 < s1.toks := Nat.lt_of_lt_of_le h0 l1
  have a2 : s1.toks < t2 := hn
  exact SC.replaceA (Nat.ne_of_gt a1) (Nat.ne_of_gt (Nat.lt_trans a1 a2)) (Nat.ne_of_lt a2) (Nat.le_trans hb hm) (fun t' k => ⟨.str _, H2, I2.tok _, ⟨_, rfl⟩, q2 _ (repl_len hb)⟩) NB
/-- z[:j] -/
def rSlS : V → Option Int → Option Int → Hp → VK → Prop := fun x lo hi H Q => ∃ z j, x = .str z ∧ lo = none ∧ hi = some j ∧ z.length ≤ sizeLine ∧ ∀ r : Str, r.length ≤ z.length → Q (.str r) H
theorem sl_str : SlR X rSlS := by
  intro pins s σ H x v vl vu lo hi sl Q I rx hs pl pu h
  obtain ⟨z, j, rfl, rfl, rfl, hz, q⟩ := h
  obtain ⟨t, rfl⟩ := rx
  cases pl
  cases pu with
  | int _ u =>
    obtain ⟨o, ho, h1, h2⟩ := hs
    refine ⟨"str", _, F.slot_str_getitem.lookup, typeIs_str _ _ _, wpAny_getItem_str_slice (l := none) (u := some (j, u)) (st := none) ⟨o, ho, h1, h2⟩ rfl (post_val_or_str ⟨Nat.le_trans (Txt.slice_le z _ _) hz, fun t' k => ?_⟩)⟩
    exact ⟨.str _, H, I.tok _, ⟨_, rfl⟩, q _ (Txt.slice_le z _ _)⟩
end
end L2

set_option linter.all false
set_option maxRecDepth 100000
set_option maxHeartbeats 4000000
namespace K1
open PySem L2 TO
abbrev sSigned : Stmt := top 29
abbrev sMoved : Stmt := top 30
theorem sign_at (z : Str) (h : 0 < z.length) (i : Int) : ∃ c, atI z.cps.toList (i % (z.length : Int)) = some c := by
  have h1 := Int.emod_nonneg i (show (z.length : Int) ≠ 0 by omega)
  have h2 := Int.emod_lt_of_pos i (show (0 : Int) < (z.length : Int) by omega)
  obtain ⟨j, hj⟩ : ∃ j : Nat, i % (z.length : Int) = (j : Int) := ⟨(i % (z.length : Int)).toNat, by omega⟩
  have hl : z.cps.toList.length = z.length := by simp [Str.length]
  rw [hj]
  exact ⟨_, atI_nat (List.getElem?_eq_getElem (by omega))⟩
section
variable {P : Program} {w : World} {K : PySem.W.Frag} {mg : Str → Option Value} {base : Heap}
def spSigned : Sp := fun vs H Q _ => ∃ (t : Str) (s : Int), vs = [.str t, .int s] ∧ t.length ≤ 2 ∧ ∀ (t' : Str) (H' : Hp), Same H H' → Q (.str t') H'
theorem scSigned : FnScope ["_law_letters", "_law_seed", "_law_signs", "_law_made"] ["_law_letters", "_law_seed"] (defScope sSigned) := ⟨rfl, rfl, rfl, by decide +kernel, rfl, by decide +kernel, by decide +kernel⟩
theorem ok_signed {f : Addr} {fd : FuncData} (F : Fun K "_law_signed" "_law_signed" sSigned f fd) (B : Bt mg) (nb : PySem.W.nsIn K cStatics sharingNotToldKey = some none) : FnOk P w K mg base CX0 1 f fd ["_law_letters", "_law_seed"] spSigned := by
  refine F.ok scSigned (fun vs H Q E h => ?_) (fun cdv A outer s H vs Q E hr h => ?_)
  · obtain ⟨t, s, rfl, _⟩ := h
    rfl
  · obtain ⟨t, sd, rfl, ht, k⟩ := h
    refine ⟨_, pss_first (i := 2) scSigned.nd rfl (Or.inl rfl)
      (pss1_cons (ps1_set (i := 3) scSigned.nd rfl (Or.inl rfl) (pe1_replace (m := 29) nb (pv 0) (pef_mul (pef_ixS (pv 2) (pe_op op_mod (pv 1) (pe_callB call_len_str (by rfl) B.len PySem.boot_len (pa_cons (pv 2) pa_nil))) (fun _ _ => rfl)) (pe_op op_add pe_int (pe_op op_mod (pe_op op_fdiv (pv 1) pe_int) pe_int)))))
      (pss1_cons (ps1_set (i := 3) scSigned.nd rfl (Or.inl rfl) (pe1_replace (m := 119) nb (pv 3) (pef_item3 (pe_op op_mod (pe_op op_fdiv (pv 1) pe_int) pe_int) (fun _ _ => rfl))))
      (PSs.one (pss_cons (ps_if (PW.pt (pw_or (pt_cmpR op_eq (pv 3) pe_str (nomark _)) (pw_or1 (pt_cmpR op_eq (pe_op op_mod (pe_op op_fdiv (pv 1) pe_int) pe_int) pe_int (nomark _))))) (pss_one (ps_ret (pv 3))) pss_nil)
      (pss_one (ps_ret (pe_op op_add_str (pe_op op_add_str (pe_slice sl_str pe_str po_none (po_some (pe_op op_mod (pe_op op_fdiv (pv 1) pe_int) pe_int))) (pv 3)) (pe_slice sl_str pe_str po_none (po_some (pe_op op_mod (pe_op op_fdiv (pv 1) pe_int) pe_int)))))))))), ?_⟩
    have e9 := Int.emod_nonneg (sd / 100) (show (9 : Int) ≠ 0 by decide)
    have l9 := Int.emod_lt_of_pos (sd / 100) (show (0 : Int) < 9 by decide)
    have e3 := Int.emod_nonneg (sd / 900) (show (3 : Int) ≠ 0 by decide)
    have l3 := Int.emod_lt_of_pos (sd / 900) (show (0 : Int) < 3 by decide)
    refine ⟨_, rfl, t, rfl, _, rfl, _, rfl, _, rfl, _, rfl, by decide +kernel, _, _, rfl, rfl, (by show (0 : Int) < _; decide +kernel), ?_⟩
    refine ⟨_, _, _, rfl, rfl, by decide +kernel, Classical.choose_spec (sign_at _ (by decide +kernel) sd), _, rfl, _, _, rfl, rfl, ⟨by decide, by decide⟩, _, _, rfl, rfl, (show (0 : Int) < 9 by decide), _, _, rfl, rfl, _, _, rfl, rfl, by omega, by omega, (show 1 ≤ 1000 by decide), fun z' hz' => ⟨z', rfl, ?_, by decide, fun r hr2 => ?_⟩⟩
    · have hz9 : z'.length ≤ 9 := by
        have : z'.length ≤ 1 * (1 + sd / 100 % 9).toNat := hz'
        omega
      have : (t.length + 1) * z'.length ≤ 3 * 9 := Nat.mul_le_mul (by omega) hz9
      omega
    have fin3 : ∀ z3 : Str, z3.length ≤ 3 → r.length + (r.length + 1) * z3.length ≤ 119 := fun z3 h3 => by
      have : (r.length + 1) * z3.length ≤ 30 * 3 := Nat.mul_le_mul (by omega) h3
      omega
    have hm : ∀ m : Str, m.length ≤ 119 → m.length ≤ 119 := fun _ h => h
    refine ⟨_, rfl, r, rfl, _, rfl, _, _, rfl, rfl, ⟨by decide, by decide⟩, _, _, rfl, rfl, (show (0 : Int) < 3 by decide), _, rfl, e3, l3, ⟨_, rfl, fin3 _ (by decide +kernel), by decide, ?_⟩, ⟨_, rfl, fin3 _ (by decide +kernel), by decide, ?_⟩, ⟨_, rfl, fin3 _ (by decide +kernel), by decide, ?_⟩⟩
    all_goals
      intro m hm
      refine ⟨_, rfl, rfl, _, rfl, ?_⟩
      refine ite2 (fun q => ⟨_, rfl, k m H (Same.refl H)⟩) (fun q => ?_)
      refine ⟨_, rfl, _, _, rfl, rfl, ⟨by decide, by decide⟩, _, _, rfl, rfl, (show (0 : Int) < 2 by decide), rfl, _, rfl, ?_⟩
      refine ite2 (fun q => ⟨_, rfl, k m H (Same.refl H)⟩) (fun q => ?_)
      refine ⟨_, rfl, _, _, rfl, rfl, ⟨by decide, by decide⟩, _, _, rfl, rfl, (show (0 : Int) < 5 by decide), _, rfl, _, _, rfl, rfl, rfl, by decide +kernel, fun r1 h1 => ?_⟩
      have h1' : r1.length ≤ 1000 := Nat.le_trans h1 (by decide +kernel)
      refine ⟨_, rfl, _, _, rfl, rfl, Nat.le_trans (Nat.add_le_add h1' hm) (by decide), ?_⟩
      refine ⟨_, rfl, _, _, rfl, rfl, ⟨by decide, by decide⟩, _, _, rfl, rfl, (show (0 : Int) < 4 by decide), _, rfl, _, _, rfl, rfl, rfl, by decide +kernel, fun r2 h2 => ⟨_, _, rfl, rfl, ?_, k _ H (Same.refl H)⟩⟩
      have h2' : r2.length ≤ 1000 := Nat.le_trans h2 (by decide +kernel)
      have e12 : (r1 ++ m).length = r1.length + m.length := by
        show (r1.cps ++ m.cps).size = _
        rw [Array.size_append]; rfl
      rw [e12]
      have : (1000 + 119 + 1000 : Nat) ≤ sizeLine := by decide
      omega
def spMoved : Sp := fun vs H Q _ => ∃ (a : Addr) (ρ : Row) (s : Int), vs = [.ref a, .int s] ∧ RowAt H a ρ ∧ ρ.t.length ≤ 2 ∧ ∀ (b : Addr) (ρ' : Row) (H' : Hp), H b = none → Same H H' → RowAt H' b ρ' → ρ'.n = raisedI ρ.n s → Q (.ref b) H'
theorem scMoved : FnScope ["_law_row", "_law_seed", "_law_number"] ["_law_row", "_law_seed"] (defScope sMoved) := ⟨rfl, rfl, rfl, by decide +kernel, rfl, by decide +kernel, by decide +kernel⟩
theorem ok_moved {f fR fK fS : Addr} {fd fdR fdK fdS : FuncData} (F : Fun K "_law_row_moved" "_law_row_moved" sMoved f fd) (gR : Gf K mg "_law_raised" fR fdR ["_law_number", "_law_seed"]) (GR : FnOk P w K mg base CX0 2 fR fdR ["_law_number", "_law_seed"] spRaised)
    (gK : Gf K mg "_law_ranked" fK fdK ["_law_rank", "_law_seed"]) (GK : FnOk P w K mg base CX0 2 fK fdK ["_law_rank", "_law_seed"] spRanked) (gS : Gf K mg "_law_signed" fS fdS ["_law_letters", "_law_seed"]) (GS : FnOk P w K mg base CX0 1 fS fdS ["_law_letters", "_law_seed"] spSigned) :
    FnOk P w K mg base CX0 3 f fd ["_law_row", "_law_seed"] spMoved := by
  refine F.ok scMoved (fun vs H Q E h => ?_) (fun cdv A outer s H vs Q E hr h => ?_)
  · obtain ⟨a, ρ, s, rfl, _⟩ := h
    rfl
  · obtain ⟨a, ρ, sd, rfl, ha, ht, k⟩ := h
    have hr1 : Room 1 _ := hr.mono (by decide)
    refine ⟨_, pss_cons (ps_set (i := 2) scMoved.nd rfl (Or.inl rfl) (pe_call GR hr rfl gR.mg gR.kp gR.b .nil pass0 (pa_cons (pe_ix ix_tup (pv 0) pe_int (fun _ _ => rfl)) (pa_cons (pv 1) pa_nil))))
      (pss_one (ps_ret (pe_tup (pa_cons (pv 2) (pa_cons (pe_call GK hr rfl gK.mg gK.kp gK.b .nil pass0 (pa_cons (pe_ix ix_tup (pv 0) pe_int (fun _ _ => rfl)) (pa_cons (pv 1) pa_nil)))
        (pa_cons (pe_call GS hr1 rfl gS.mg gS.kp gS.b .nil pass0 (pa_cons (pe_ix ix_tup (pv 0) pe_int (fun _ _ => rfl)) (pa_cons (pv 1) pa_nil))) pa_nil)))))), ?_⟩
    refine ⟨_, rfl, a, _, _, _, rfl, rfl, SqT.of ha, atI_nat (j := 0) rfl, _, rfl, _, _, rfl, ?_⟩
    refine ⟨_, rfl, _, rfl, a, _, _, _, rfl, rfl, SqT.of ha, atI_nat (j := 1) rfl, _, rfl, _, _, rfl, fun rk => ?_⟩
    refine ⟨_, rfl, a, _, _, _, rfl, rfl, SqT.of ha, atI_nat (j := 2) rfl, _, rfl, _, _, rfl, ht, fun t' H1 s1 => ?_⟩
    refine ⟨by show 3 ≤ sizeLine; decide, fun b hb => ?_⟩
    exact k b ⟨raisedI ρ.n sd, rk, t'⟩ _ (s1.free hb) (s1.trans (Same.upd_new hb)) upd_same rfl
end
end K1

set_option linter.all false
set_option maxRecDepth 100000
set_option maxHeartbeats 4000000
namespace K1
open PySem L2 TO
/-- what is not in f is as it was; what is in f was a list, or free -/
structure Mov (H H' : Hp) (f : List Addr) : Prop where
  keep : ∀ b u, H b = some u → b ∉ f → H' b = some u
  lst : ∀ b ∈ f, ∀ u, H b = some u → ∃ xs, u = .lst xs
theorem Mov.of_same {H H' : Hp} {f : List Addr} (s : Same H H') : Mov H H' [] := ⟨fun b u h _ => s b u h, fun b hb => by cases hb⟩
theorem Mov.upd {H : Hp} {a : Addr} {xs ys : List V} (h : H a = some (.lst xs)) : Mov H (upd H a (.lst ys)) [a] := ⟨fun b u hb hn => by
    rw [upd_ne (fun e => hn (by rw [e]; exact List.mem_singleton.mpr rfl))]; exact hb, fun b hb u hu => by
    rw [List.mem_singleton.mp hb, h] at hu; exact ⟨xs, (Option.some.inj hu).symm⟩⟩
theorem OrdAt.lists {C : Addr} {w : Bool} {H : Hp} {o bl : Addr} {bas : List Addr} {B : List (List Row)} (h : OrdAt C w H o bl bas B) : ∀ b ∈ bl :: bas, ∃ xs, H b = some (.lst xs) := fun b hb => by
  rcases List.mem_cons.mp hb with e | e
  · rw [e]; exact ⟨_, h.ls⟩
  · exact lsts_in h.bs b e
theorem Mov.of_stp {C : Addr} {w : Bool} {H H' : Hp} {o bl : Addr} {bas f' : List Addr} {B : List (List Row)} (h : OrdAt C w H o bl bas B) (S : Stp H H' (bl :: bas) f') : Mov H H' (bl :: bas) := ⟨S.keep, fun b hb u hu => by
  obtain ⟨xs, e⟩ := h.lists b hb
  rw [e] at hu
  exact ⟨xs, (Option.some.inj hu).symm⟩⟩
section
variable {H H' H0 : Hp} {f : List Addr}
theorem Mov.tup (m : Mov H H' f) {b : Addr} {xs : List V} (h : H b = some (.tup xs)) : H' b = some (.tup xs) := m.keep b _ h fun hb => by
  obtain ⟨ys, e⟩ := m.lst b hb _ h
  cases e
theorem Mov.ins (m : Mov H H' f) {b C d : Addr} {fl : List (Str × V)} (h : H b = some (.ins C d fl)) : H' b = some (.ins C d fl) := m.keep b _ h fun hb => by
  obtain ⟨ys, e⟩ := m.lst b hb _ h
  cases e
theorem Mov.lstAt (m : Mov H H' f) {l : Addr} {ρs : List Row} (h : LstAt H l ρs) (hl : l ∉ f) : LstAt H' l ρs := by
  obtain ⟨as, h1, h2⟩ := h
  exact ⟨as, m.keep l _ h1 hl, h2.same fun b xs q => m.tup q⟩
theorem Mov.lsts (m : Mov H H' f) : ∀ {bas : List Addr} {B : List (List Row)}, Paired (LstAt H) bas B → (∀ b ∈ bas, b ∉ f) → Paired (LstAt H') bas B
  | _, _, .nil, _ => .nil
  | _, _, .cons h t, hn => .cons (m.lstAt h (hn _ (List.mem_cons_self ..))) (m.lsts t fun b hb => hn b (List.mem_cons_of_mem _ hb))
theorem Mov.ord (m : Mov H H' f) {C : Addr} {w : Bool} {o bl : Addr} {bas : List Addr} {B : List (List Row)} (h : OrdAt C w H o bl bas B) (hn : ∀ b ∈ bl :: bas, b ∉ f) : OrdAt C w H' o bl bas B := by
  obtain ⟨⟨dx, h1⟩, h2, h3, h4⟩ := h
  exact ⟨⟨dx, m.ins h1⟩, m.keep _ _ h2 (hn _ (List.mem_cons_self ..)), m.lsts h3 fun b hb => hn b (List.mem_cons_of_mem _ hb), h4⟩
theorem Mov.same (m : Mov H H' f) (s : Same H0 H) (hf : ∀ b ∈ f, H0 b = none) : Same H0 H' := fun b u hb => m.keep b u (s b u hb) fun hm => by
  rw [hf b hm] at hb; cases hb
/-- what was told ahead, and its copies -/
def Pr2 (H : Hp) (p q : Addr) : Prop := ∃ as : List Addr, H p = some (.lst (as.map V.ref)) ∧ H q = some (.lst (as.map V.ref))
def OldAt (H : Hp) (ol ke : Addr) (ls ks : List Addr) : Prop := H ol = some (.lst (ls.map V.ref)) ∧ H ke = some (.lst (ks.map V.ref)) ∧ Paired (Pr2 H) ls ks
theorem Mov.pr2 (m : Mov H H' f) : ∀ {ls ks : List Addr}, Paired (Pr2 H) ls ks → (∀ b ∈ ls ++ ks, b ∉ f) → Paired (Pr2 H') ls ks
  | _, _, .nil, _ => .nil
  | l :: ls, k :: ks, .cons h t, hn => .cons (by
      obtain ⟨as, h1, h2⟩ := h
      exact ⟨as, m.keep _ _ h1 (hn _ (by simp)), m.keep _ _ h2 (hn _ (by simp))⟩) (m.pr2 t fun b hb => hn b (by simp at hb ⊢; rcases hb with q | q <;> simp [q]))
theorem Mov.old (m : Mov H H' f) {ol ke : Addr} {ls ks : List Addr} (h : OldAt H ol ke ls ks) (hn : ∀ b ∈ ol :: ke :: (ls ++ ks), b ∉ f) : OldAt H' ol ke ls ks :=
  ⟨m.keep _ _ h.1 (hn _ (by simp)), m.keep _ _ h.2.1 (hn _ (by simp)), m.pr2 h.2.2 fun b hb => hn b (List.mem_cons_of_mem _ (List.mem_cons_of_mem _ hb))⟩
theorem OldAt.has {ol ke : Addr} {ls ks : List Addr} (h : OldAt H ol ke ls ks) : ∀ b ∈ ol :: ke :: (ls ++ ks), ∃ u, H b = some u := by
  intro b hb
  rcases List.mem_cons.mp hb with e | e
  · rw [e]; exact ⟨_, h.1⟩
  rcases List.mem_cons.mp e with e | e
  · rw [e]; exact ⟨_, h.2.1⟩
  have aux : ∀ {ls ks : List Addr}, Paired (Pr2 H) ls ks → ∀ b ∈ ls ++ ks, ∃ u, H b = some u := by
    intro ls
    induction ls with
    | nil => intro ks p b hb; cases p; simp at hb
    | cons l r ih =>
      intro ks p b hb
      cases p with
      | cons h t =>
        obtain ⟨as, h1, h2⟩ := h
        simp only [List.cons_append, List.mem_cons, List.mem_append] at hb
        rcases hb with q | q | q | q
        · rw [q]; exact ⟨_, h1⟩
        · exact ih t b (by simp [q])
        · rw [q]; exact ⟨_, h2⟩
        · exact ih t b (by simp [q])
  exact aux h.2.2 b e
end
/-- all that the law's loop changes, and what it must not touch -/
structure Wd (C : Addr) (w : Bool) (H0 H : Hp) (o bl o2 bl2 th hf ol ke : Addr) (bas bas2 ls ks : List Addr) (B B2 : List (List Row)) (ρs κs : List Row) : Prop where
  s0 : Same H0 H
  O : OrdAt C w H o bl bas B
  O2 : OrdAt C (!w) H o2 bl2 bas2 B2
  t : LstAt H th ρs
  h : LstAt H hf κs
  old : OldAt H ol ke ls ks
  fr : ∀ b ∈ th :: hf :: (bl :: bas ++ bl2 :: bas2), H0 b = none
  d1 : ∀ b ∈ bl :: bas, b ∉ bl2 :: bas2
  d2 : ∀ b ∈ bl :: bas, b ≠ th ∧ b ≠ hf
  d3 : ∀ b ∈ bl2 :: bas2, b ≠ th ∧ b ≠ hf
  d4 : th ≠ hf
  d5 : ∀ b ∈ ol :: ke :: (ls ++ ks), b ∉ th :: hf :: (bl :: bas ++ bl2 :: bas2)
section
variable {C : Addr} {w : Bool} {H0 H H' : Hp} {o bl o2 bl2 th hf ol ke : Addr} {bas bas2 ls ks : List Addr} {B B2 : List (List Row)} {ρs κs : List Row}
theorem lst_has {l : Addr} (h : LstAt H l ρs) : ∃ xs, H l = some (.lst xs) := by
  obtain ⟨as, h1, _⟩ := h
  exact ⟨_, h1⟩
theorem Wd.same (W : Wd C w H0 H o bl o2 bl2 th hf ol ke bas bas2 ls ks B B2 ρs κs) (s : Same H H') : Wd C w H0 H' o bl o2 bl2 th hf ol ke bas bas2 ls ks B B2 ρs κs where
  s0 := W.s0.trans s
  O := W.O.same s
  O2 := W.O2.same s
  t := W.t.sameS s
  h := W.h.sameS s
  old := (Mov.of_same (f := []) s).old W.old fun _ _ h => by cases h
  fr := W.fr
  d1 := W.d1
  d2 := W.d2
  d3 := W.d3
  d4 := W.d4
  d5 := W.d5
theorem not_mu {b th hf : Addr} {f g : List Addr} : b ∉ th :: hf :: (f ++ g) ↔ b ≠ th ∧ b ≠ hf ∧ b ∉ f ∧ b ∉ g := by
  simp only [List.mem_cons, List.mem_append, not_or]
theorem all_mu {P : Addr → Prop} {th hf : Addr} {f g : List Addr} : (∀ b ∈ th :: hf :: (f ++ g), P b) ↔ P th ∧ P hf ∧ (∀ b ∈ f, P b) ∧ ∀ b ∈ g, P b := by
  constructor
  · intro h
    exact ⟨h _ (by simp), h _ (by simp), fun b hb => h b (by simp [hb]), fun b hb => h b (by simp [hb])⟩
  · rintro ⟨h1, h2, h3, h4⟩ b hb
    simp only [List.mem_cons, List.mem_append] at hb
    rcases hb with e | e | e | e
    · rw [e]; exact h1
    · rw [e]; exact h2
    · exact h3 b e
    · exact h4 b e
theorem ne_free {b c : Addr} {u : HO} (h : H b = some u) (hc : H c = none) : c ≠ b := fun e => by rw [e, h] at hc; cases hc
theorem Wd.ord {bas' : List Addr} {B' : List (List Row)} (W : Wd C w H0 H o bl o2 bl2 th hf ol ke bas bas2 ls ks B B2 ρs κs) (S : Stp H H' (bl :: bas) (bl :: bas')) (O' : OrdAt C w H' o bl bas' B') : Wd C w H0 H' o bl o2 bl2 th hf ol ke bas' bas2 ls ks B' B2 ρs κs := by
  have m := Mov.of_stp W.O S
  obtain ⟨f1, f2, f3, f4⟩ := all_mu.mp W.fr
  obtain ⟨xt, et⟩ := (lst_has W.t)
  obtain ⟨xh, eh⟩ := (lst_has W.h)
  refine ⟨m.same W.s0 f3, O', m.ord W.O2 fun b hb hc => W.d1 b hc hb, m.lstAt W.t fun hc => (W.d2 _ hc).1 rfl, m.lstAt W.h fun hc => (W.d2 _ hc).2 rfl, m.old W.old fun b hb hc => (not_mu.mp (W.d5 b hb)).2.2.1 hc, ?_, ?_, ?_, W.d3, W.d4, ?_⟩
  · refine all_mu.mpr ⟨f1, f2, fun b hb => ?_, f4⟩
    rcases S.new b hb with q | q
    · exact f3 b q
    · exact W.s0.free q
  · intro b hb
    rcases S.new b hb with q | q
    · exact W.d1 b q
    · intro hc
      obtain ⟨xs, e⟩ := W.O2.lists b hc
      rw [q] at e; cases e
  · intro b hb
    rcases S.new b hb with q | q
    · exact W.d2 b q
    · exact ⟨ne_free et q, ne_free eh q⟩
  · intro b hb
    obtain ⟨n1, n2, n3, n4⟩ := not_mu.mp (W.d5 b hb)
    refine not_mu.mpr ⟨n1, n2, fun hc => ?_, n4⟩
    rcases S.new b hc with q | q
    · exact n3 q
    · obtain ⟨u, e⟩ := W.old.has b hb
      rw [q] at e; cases e
theorem Wd.oth {bas' : List Addr} {B' : List (List Row)} (W : Wd C w H0 H o bl o2 bl2 th hf ol ke bas bas2 ls ks B B2 ρs κs) (S : Stp H H' (bl2 :: bas2) (bl2 :: bas')) (O' : OrdAt C (!w) H' o2 bl2 bas' B') : Wd C w H0 H' o bl o2 bl2 th hf ol ke bas bas' ls ks B B' ρs κs := by
  have m := Mov.of_stp W.O2 S
  obtain ⟨f1, f2, f3, f4⟩ := all_mu.mp W.fr
  obtain ⟨xt, et⟩ := (lst_has W.t)
  obtain ⟨xh, eh⟩ := (lst_has W.h)
  refine ⟨m.same W.s0 f4, m.ord W.O W.d1, O', m.lstAt W.t fun hc => (W.d3 _ hc).1 rfl, m.lstAt W.h fun hc => (W.d3 _ hc).2 rfl, m.old W.old fun b hb hc => (not_mu.mp (W.d5 b hb)).2.2.2 hc, ?_, ?_, W.d2, ?_, W.d4, ?_⟩
  · refine all_mu.mpr ⟨f1, f2, f3, fun b hb => ?_⟩
    rcases S.new b hb with q | q
    · exact f4 b q
    · exact W.s0.free q
  · intro b hb hc
    rcases S.new b hc with q | q
    · exact W.d1 b hb q
    · obtain ⟨xs, e⟩ := W.O.lists b hb
      rw [q] at e; cases e
  · intro b hb
    rcases S.new b hb with q | q
    · exact W.d3 b q
    · exact ⟨ne_free et q, ne_free eh q⟩
  · intro b hb
    obtain ⟨n1, n2, n3, n4⟩ := not_mu.mp (W.d5 b hb)
    refine not_mu.mpr ⟨n1, n2, n3, fun hc => ?_⟩
    rcases S.new b hc with q | q
    · exact n4 q
    · obtain ⟨u, e⟩ := W.old.has b hb
      rw [q] at e; cases e
theorem Wd.setT {vs : List V} {ρs' : List Row} (W : Wd C w H0 H o bl o2 bl2 th hf ol ke bas bas2 ls ks B B2 ρs κs) (ht : LstAt (upd H th (.lst vs)) th ρs') : Wd C w H0 (upd H th (.lst vs)) o bl o2 bl2 th hf ol ke bas bas2 ls ks B B2 ρs' κs := by
  obtain ⟨xt, et⟩ := (lst_has W.t)
  have m : Mov H (upd H th (.lst vs)) [th] := Mov.upd et
  obtain ⟨f1, f2, f3, f4⟩ := all_mu.mp W.fr
  refine ⟨m.same W.s0 fun b hb => by rw [List.mem_singleton.mp hb]; exact f1, m.ord W.O fun b hb hc => (W.d2 b hb).1 (List.mem_singleton.mp hc), m.ord W.O2 fun b hb hc => (W.d3 b hb).1 (List.mem_singleton.mp hc), ht, m.lstAt W.h fun hc => W.d4 (List.mem_singleton.mp hc).symm, m.old W.old fun b hb hc => (not_mu.mp (W.d5 b hb)).1 (List.mem_singleton.mp hc), W.fr, W.d1, W.d2, W.d3, W.d4, W.d5⟩
theorem Wd.setH {vs : List V} {κs' : List Row} (W : Wd C w H0 H o bl o2 bl2 th hf ol ke bas bas2 ls ks B B2 ρs κs) (ht : LstAt (upd H hf (.lst vs)) hf κs') : Wd C w H0 (upd H hf (.lst vs)) o bl o2 bl2 th hf ol ke bas bas2 ls ks B B2 ρs κs' := by
  obtain ⟨xt, et⟩ := (lst_has W.h)
  have m : Mov H (upd H hf (.lst vs)) [hf] := Mov.upd et
  obtain ⟨f1, f2, f3, f4⟩ := all_mu.mp W.fr
  refine ⟨m.same W.s0 fun b hb => by rw [List.mem_singleton.mp hb]; exact f2, m.ord W.O fun b hb hc => (W.d2 b hb).2 (List.mem_singleton.mp hc), m.ord W.O2 fun b hb hc => (W.d3 b hb).2 (List.mem_singleton.mp hc), m.lstAt W.t fun hc => W.d4 (List.mem_singleton.mp hc), ht, m.old W.old fun b hb hc => (not_mu.mp (W.d5 b hb)).2.1 (List.mem_singleton.mp hc), W.fr, W.d1, W.d2, W.d3, W.d4, W.d5⟩
theorem Wd.mu_some (W : Wd C w H0 H o bl o2 bl2 th hf ol ke bas bas2 ls ks B B2 ρs κs) : ∀ b ∈ th :: hf :: (bl :: bas ++ bl2 :: bas2), ∃ u, H b = some u := all_mu.mpr ⟨let ⟨_, e⟩ := (lst_has W.t); ⟨_, e⟩, let ⟨_, e⟩ := (lst_has W.h); ⟨_, e⟩, fun b hb => let ⟨_, e⟩ := W.O.lists b hb; ⟨_, e⟩, fun b hb => let ⟨_, e⟩ := W.O2.lists b hb; ⟨_, e⟩⟩
theorem Wd.renew {H1 : Hp} {ol' ke' : Addr} {ls' ks' : List Addr} (W : Wd C w H0 H o bl o2 bl2 th hf ol ke bas bas2 ls ks B B2 ρs κs) (s : Same H H') (old : OldAt H' ol' ke' ls' ks') (hn : ∀ b ∈ ol' :: ke' :: (ls' ++ ks'), H b = none) : Wd C w H0 H' o bl o2 bl2 th hf ol' ke' bas bas2 ls' ks' B B2 ρs κs :=
  let W' := W.same s
  ⟨W'.s0, W'.O, W'.O2, W'.t, W'.h, old, W.fr, W.d1, W.d2, W.d3, W.d4, fun b hb hc => by
    obtain ⟨u, e⟩ := W.mu_some b hc
    rw [hn b hb] at e; cases e⟩
end
end K1

set_option linter.all false
set_option maxRecDepth 100000
set_option maxHeartbeats 4000000
namespace K1
open PySem L2 TO
abbrev sLaw : Stmt := top 31
theorem call_listK {X : Cx} (K : PySem.W.Frag) (hK : X.K = K := by rfl) : CallR X (.type "list") (fun xs H Q => ∃ p ys, xs = [.ref p] ∧ (SqL K H p ys ∨ SqT K H p ys) ∧ ∀ l, H l = none → Q (.ref l) (upd H l (.lst ys))) := by subst hK; exact call_list_of
theorem ps_weak {X : Cx} {st : Stmt} {t t' : TS} (h : PS X st t) (hw : ∀ D σ H, t' D σ H → t D σ H) : PS X st t' := fun pins s σ H D I q => h pins s σ H D I (hw D σ H q)
theorem pss_weak {X : Cx} {st : List Stmt} {t t' : TS} (h : PSs X st t) (hw : ∀ D σ H, t' D σ H → t D σ H) : PSs X st t' := fun pins s σ H D I q => h pins s σ H D I (hw D σ H q)
def wOf (z : Int) : Bool := decide (z % 2 = 1)
theorem mod2 (z : Int) : z % 2 = 0 ∨ z % 2 = 1 := by omega
theorem word_at (z : Int) : atI [V.str "rank", V.str "text"] (z % 2) = some (.str (wordS (wOf z))) := by
  rcases mod2 z with e | e
  · rw [wOf, e]; exact atI_nat (j := 0) rfl
  · rw [wOf, e]; exact atI_nat (j := 1) rfl
theorem word_at' (z : Int) : atI [V.str "text", V.str "rank"] (z % 2) = some (.str (wordS (!wOf z))) := by
  rcases mod2 z with e | e
  · rw [wOf, e]; exact atI_nat (j := 0) rfl
  · rw [wOf, e]; exact atI_nat (j := 1) rfl
theorem spot_of (z : Int) : 1 + z % 2 = spotI (wOf z) := by
  rcases mod2 z with e | e <;> rw [wOf, e] <;> rfl
theorem spot_not (w : Bool) : 3 - spotI w = spotI (!w) := by cases w <;> rfl
theorem cell_at {ns : List Int} {j : Nat} (h : j < ns.length) {z : Int} (e : z = (j : Int)) : atI (ns.map V.int) z = some (.int (ns.getD j 0)) := by
  rw [e]
  refine atI_nat ?_
  rw [List.getElem?_map, List.getD_eq_getElem?_getD, List.getElem?_eq_getElem h]
  rfl
def num (ns : List Int) (j : Nat) : Int := raisedI (far ((7 * (2 + (j : Int)) + ns.getD 1 0) % 331)) (ns.getD 0 0)
theorem num_inj {ns : List Int} {i j : Nat} (hi : i < 64) (hj : j < 64) (h : num ns i = num ns j) : i = j := by
  have h1 := far_inj ⟨Int.emod_nonneg _ (by decide), Int.emod_lt_of_pos _ (by decide)⟩ ⟨Int.emod_nonneg _ (by decide), Int.emod_lt_of_pos _ (by decide)⟩ (raised_inj h)
  omega
def Nums (ns : List Int) (i : Nat) (ρs : List Row) : Prop := (ρs.map (·.n)).Nodup ∧ (∀ ρ ∈ ρs, ∃ j, j < i ∧ ρ.n = num ns j) ∧ ρs.length ≤ i
theorem Nums.up {ns : List Int} {i : Nat} {ρs : List Row} (h : Nums ns i ρs) : Nums ns (i + 1) ρs := ⟨h.1, fun ρ hρ => let ⟨j, a, b⟩ := h.2.1 ρ hρ; ⟨j, by omega, b⟩, by have := h.2.2; omega⟩
theorem Nums.new {ns : List Int} {i : Nat} {ρs : List Row} {ρ : Row} (h : Nums ns i ρs) (hi : i < 64) (e : ρ.n = num ns i) : ∀ x ∈ ρs, x.n ≠ ρ.n := fun x hx q => by
  obtain ⟨j, a, b⟩ := h.2.1 x hx
  have := num_inj (ns := ns) (i := j) (j := i) (by omega) hi (by rw [← b, q, e])
  omega
theorem Nums.snoc {ns : List Int} {i : Nat} {ρs : List Row} {ρ : Row} (h : Nums ns i ρs) (hi : i < 64) (e : ρ.n = num ns i) : Nums ns (i + 1) (ρs ++ [ρ]) := by
  have hn := h.new hi e
  obtain ⟨h1, h2, h3⟩ := h
  refine ⟨?_, fun x hx => ?_, by simp; omega⟩
  · rw [List.map_append, List.nodup_append]
    refine ⟨h1, by simp, fun x hx y hy q => ?_⟩
    obtain ⟨z, hz, rfl⟩ := List.mem_map.mp hx
    simp at hy
    exact hn z hz (q.trans hy)
  · rcases List.mem_append.mp hx with q | q
    · obtain ⟨j, a, b⟩ := h2 x q
      exact ⟨j, by omega, b⟩
    · rw [List.mem_singleton.mp q]
      exact ⟨i, by omega, e⟩
theorem Nums.erase {ns : List Int} {i : Nat} {ρs : List Row} (h : Nums ns i ρs) (j : Nat) : Nums ns (i + 1) (ρs.eraseIdx j) := by
  obtain ⟨h1, h2, h3⟩ := h.up
  refine ⟨?_, fun x hx => h2 x ((List.eraseIdx_sublist ρs j).subset hx), Nat.le_trans (List.eraseIdx_sublist ρs j).length_le h3⟩
  exact (((List.eraseIdx_sublist ρs j).map _).nodup h1)
theorem perm_erase {l : List Row} {j : Nat} {x : Row} (h : l[j]? = some x) : l.Perm (x :: l.eraseIdx j) := by
  obtain ⟨a, b, rfl, rfl⟩ := split_at h
  rw [List.eraseIdx_append_of_length_le (Nat.le_refl _), Nat.sub_self]
  exact List.perm_middle
theorem alike_self (w : Bool) (ρ : Row) : ∀ x, alikeV (lead w x) (lead w ρ) = true := fun x => lead_alike w x ρ
theorem made_same {H H1 : Hp} {o dx bl C : Addr} (no : H o = none) (ndx : H dx = none) (hbl : upd (upd H dx (.own o)) o (.ins C dx []) bl = none) (k1 : ∀ b u, upd (upd H dx (.own o)) o (.ins C dx []) b = some u → b ≠ o → H1 b = some u) : Same H H1 ∧ H bl = none := by
  refine ⟨fun b u hb => k1 b u (by rw [upd_ne (ne_of_none hb no), upd_ne (ne_of_none hb ndx)]; exact hb) (ne_of_none hb no), ?_⟩
  cases e : H bl with
  | none => rfl
  | some u => rw [upd_ne (ne_of_none e no), upd_ne (ne_of_none e ndx), e] at hbl; cases hbl
theorem wd_start {C : Addr} {w : Bool} {H H5 : Hp} {o bl o2 bl2 th hf ol ke : Addr} (s : Same H H5) (O : OrdAt C w H5 o bl [] []) (O2 : OrdAt C (!w) H5 o2 bl2 [] []) (hbl : H bl = none) (hbl2 : H bl2 = none) (hne : bl ≠ bl2) (hth : H5 th = none) (hhf : upd H5 th (.lst []) hf = none)
    (hol : upd (upd H5 th (.lst [])) hf (.lst []) ol = none) (hke : upd (upd (upd H5 th (.lst [])) hf (.lst [])) ol (.lst []) ke = none) :
    Wd C w H (upd (upd (upd (upd H5 th (.lst [])) hf (.lst [])) ol (.lst [])) ke (.lst [])) o bl o2 bl2 th hf ol ke [] [] [] [] [] [] [] [] := by
  have s1 : Same H5 (upd H5 th (.lst [])) := Same.upd_new hth
  have s2 := Same.upd_new (o := .lst []) hhf
  have s3 := Same.upd_new (o := .lst []) hol
  have s4 := Same.upd_new (o := .lst []) hke
  have s15 := (s1.trans s2).trans (s3.trans s4)
  have t1 : LstAt (upd (upd (upd (upd H5 th (.lst [])) hf (.lst [])) ol (.lst [])) ke (.lst [])) th [] := ⟨[], s4 _ _ (s3 _ _ (s2 _ _ upd_same)), .nil⟩
  have t2 : LstAt (upd (upd (upd (upd H5 th (.lst [])) hf (.lst [])) ol (.lst [])) ke (.lst [])) hf [] := ⟨[], s4 _ _ (s3 _ _ upd_same), .nil⟩
  have fth : H th = none := s.free hth
  have fhf : H hf = none := s.free (s1.free hhf)
  have e1 := O.ls
  have e2 := O2.ls
  have n1 : th ≠ hf := ne_of_none upd_same hhf
  have b1 := s1 _ _ e1
  have b2 := s1 _ _ e2
  have c1 := s2 _ _ b1
  have c2 := s2 _ _ b2
  have d1 := s3 _ _ c1
  have d2 := s3 _ _ c2
  refine ⟨s.trans s15, O.same s15, O2.same s15, t1, t2, ⟨s4 _ _ upd_same, upd_same, .nil⟩, ?_, ?_, ?_, ?_, n1, ?_⟩
  · refine all_mu.mpr ⟨fth, fhf, fun b hb => ?_, fun b hb => ?_⟩
    · rw [List.mem_singleton.mp hb]; exact hbl
    · rw [List.mem_singleton.mp hb]; exact hbl2
  · intro b hb hc
    exact hne ((List.mem_singleton.mp hb).symm.trans (List.mem_singleton.mp hc))
  · intro b hb
    rw [List.mem_singleton.mp hb]
    exact ⟨ne_of_none e1 hth, ne_of_none b1 hhf⟩
  · intro b hb
    rw [List.mem_singleton.mp hb]
    exact ⟨ne_of_none e2 hth, ne_of_none b2 hhf⟩
  · intro b hb
    have hb' : b = ol ∨ b = ke := by simpa using hb
    have aux : ∀ x : Addr, (∀ y u, upd (upd H5 th (.lst [])) hf (.lst []) y = some u → y ≠ x) → x ∉ th :: hf :: ([bl] ++ [bl2]) := fun x hx hm => by
      have hm' : x = th ∨ x = hf ∨ x = bl ∨ x = bl2 := by simpa using hm
      rcases hm' with q | q | q | q
      · exact hx th _ (s2 _ _ upd_same) q.symm
      · exact hx hf _ upd_same q.symm
      · exact hx bl _ c1 q.symm
      · exact hx bl2 _ c2 q.symm
    rcases hb' with q | q
    · rw [q]
      exact aux ol fun y u hy => ne_of_none hy hol
    · rw [q]
      exact aux ke fun y u hy => ne_of_none (s3 _ _ hy) hke
theorem least_at (c : Bool) : ∃ z : Int, atI [V.int 3, V.int 1] (if c = true then 1 else 0) = some (.int z) := by
  cases c
  · exact ⟨3, atI_nat (j := 0) rfl⟩
  · exact ⟨1, atI_nat (j := 1) rfl⟩
/-- a comprehension that copies lists -/
theorem comp_copies {K : PySem.W.Frag} {a Da : Addr} {σ : L2.St} {js : List Nat} {tt : TT} {te : TE} {QQ : Hp → Prop} {H : Hp} {ls : List Addr} (ha : H a = some (.lst (ls.map V.ref))) (hl : ∀ l ∈ ls, ∃ xs : List Addr, H l = some (.lst (xs.map V.ref))) (hD : H Da = none) (hsz : ls.length < 1000)
    (ht : ∀ v H2 (Qb : Bool → Hp → Prop), Qb true H2 → tt (stComp σ js (some v)) H2 Qb)
    (he : ∀ l (xs : List V) H2 (Q : VK), H2 l = some (.lst xs) → (∀ c, H2 c = none → Q (.ref c) (upd H2 c (.lst xs))) → te (stComp σ js (some (.ref l))) H2 Q)
    (hd : ∀ H' (cs : List Addr), Same H H' → H' Da = some (.lst (cs.map V.ref)) → Paired (Pr2 H') ls cs → (∀ c ∈ cs, H c = none) → QQ H') : ∃ W : Nat → Nat → Hp → Prop, (∃ m, W 0 m (upd H Da (.lst []))) ∧ CompW (Itl K a) Da σ js tt te QQ W := by
  refine comp_list (K := K) (xs := ls.map V.ref) (fun i ys H5 => Same H H5 ∧ ∃ cs : List Addr, ys = cs.map V.ref ∧ Paired (Pr2 H5) (ls.take i) cs ∧ ∀ c ∈ cs, H c = none ∧ c ≠ Da) ⟨Same.upd_new hD, [], rfl, .nil, by simp⟩ (fun i ys H5 _ _ h => SqL.of (h.1 _ _ ha)) ?_ ?_
  · rintro i v ys H5 hi hD5 ⟨s5, cs, rfl, hp, hc⟩
    rw [List.getElem?_map] at hi
    cases e : ls[i]? with
    | none => rw [e] at hi; cases hi
    | some l =>
      rw [e] at hi
      obtain rfl : V.ref l = v := Option.some.inj hi
      obtain ⟨xs, hx⟩ := hl l (List.mem_of_getElem? e)
      have hil := (List.getElem?_eq_some_iff.mp e).1
      have hpl := Paired.length hp
      rw [List.length_take] at hpl
      refine ht _ H5 _ (iteT ?_)
      refine he l _ H5 _ (s5 _ _ hx) fun c hcn => ?_
      have nD : Da ≠ c := ne_of_none hD5 hcn
      have s6 : Same H5 (upd H5 c (.lst (xs.map V.ref))) := Same.upd_new hcn
      have m : Mov (upd H5 c (.lst (xs.map V.ref))) (upd (upd H5 c (.lst (xs.map V.ref))) Da (.lst (cs.map V.ref ++ [V.ref c]))) [Da] := Mov.upd (s6 _ _ hD5)
      have hlD : l ≠ Da := ne_of_none hx hD
      refine ⟨s6 _ _ hD5, by rw [List.length_map]; exact small1000 (by omega), m.same (s5.trans s6) (fun b hb => by rw [List.mem_singleton.mp hb]; exact hD), cs ++ [c], by rw [List.map_append]; rfl, ?_, fun x hx' => ?_⟩
      · rw [List.take_add_one, e]
        refine paired_app (m.pr2 ((Mov.of_same (f := []) s6).pr2 hp fun _ _ h => by cases h) fun b hb hq => ?_) (.cons ⟨xs, m.keep _ _ (s6 _ _ (s5 _ _ hx)) (fun h => hlD (List.mem_singleton.mp h)), m.keep _ _ upd_same (fun h => nD (List.mem_singleton.mp h).symm)⟩ .nil)
        have hb' := List.mem_singleton.mp hq
        rcases List.mem_append.mp hb with q | q
        · obtain ⟨ys, hy⟩ := hl b ((List.take_sublist i ls).subset q)
          rw [hb', hD] at hy; cases hy
        · exact (hc b q).2 hb'
      · rcases List.mem_append.mp hx' with q | q
        · exact hc x q
        · rw [List.mem_singleton.mp q]
          exact ⟨s5.free hcn, nD.symm⟩
  · rintro ys H5 hD5 ⟨s5, cs, rfl, hp, hc⟩
    rw [List.length_map, List.take_of_length_le (Nat.le_refl _)] at hp
    exact hd H5 cs s5 hD5 hp fun c hx => (hc c hx).1
/-- the loop's invariant -/
def Iv (C : Addr) (w : Bool) (ns : List Int) (H0 Hx : Hp) (i : Nat) (o bl o2 bl2 th hf ol ke : Addr) : Prop := ∃ (bas bas2 ls ks : List Addr) (B B2 : List (List Row)) (ρs κs : List Row),
  Wd C w H0 Hx o bl o2 bl2 th hf ol ke bas bas2 ls ks B B2 ρs κs ∧ GoodB w B ∧ GoodB (!w) B2 ∧ B.flatten.Perm ρs ∧ B2.flatten.Perm κs ∧ Nums ns i ρs ∧ Nums ns i κs
theorem Iv.same {C : Addr} {w : Bool} {ns : List Int} {H0 Hx Hy : Hp} {i : Nat} {o bl o2 bl2 th hf ol ke : Addr} (h : Iv C w ns H0 Hx i o bl o2 bl2 th hf ol ke) (s : Same Hx Hy) : Iv C w ns H0 Hy i o bl o2 bl2 th hf ol ke := by
  obtain ⟨bas, bas2, ls, ks, B, B2, ρs, κs, W, r⟩ := h
  exact ⟨bas, bas2, ls, ks, B, B2, ρs, κs, W.same s, r⟩
def st17 (a : Addr) (w : Bool) (o o2 th hf ol ke : Addr) (last : Int) (v1 v2 v3 v4 : Option V) : L2.St :=
  [some (.ref a), some (.str (wordS w)), some (.int (spotI w)), some (.ref o), some (.ref o2), some (.ref th), some (.ref hf), some (.ref ol), some (.ref ke), some (.int last), v1, v2, v3, v4, none, none, none]
def tStep (C : Addr) (w : Bool) (ns : List Int) (a : Addr) (H0 : Hp) : TS := fun D σ Hx => ∃ (o bl o2 bl2 th hf ol ke r : Addr) (i : Nat) (oc le : Int) (ρ : Row),
  σ = st17 a w o o2 th hf ol ke (ns.length : Int) (some (.int (2 + (i : Int)))) (some (.ref r)) (some (.int oc)) (some (.int le)) ∧ Iv C w ns H0 Hx i o bl o2 bl2 th hf ol ke ∧ RowAt Hx r ρ ∧ ρ.n = num ns i ∧ i < 63 ∧
  ∀ (r' : Addr) (ρ' : Row) (H' : Hp), RowAt H' r' ρ' → Iv C w ns H0 H' (i + 1) o bl o2 bl2 th hf ol ke → D.nx (st17 a w o o2 th hf ol ke (ns.length : Int) (some (.int (2 + (i : Int)))) (some (.ref r')) (some (.int oc)) (some (.int le))) H'
def tCheck (C : Addr) (w : Bool) (ns : List Int) (a : Addr) (H0 : Hp) : TS := fun D σ Hx => ∃ (o bl o2 bl2 th hf ol ke r : Addr) (i : Nat) (v3 v4 : Option V) (ρ : Row),
  σ = st17 a w o o2 th hf ol ke (ns.length : Int) (some (.int (2 + (i : Int)))) (some (.ref r)) v3 v4 ∧ Iv C w ns H0 Hx (i + 1) o bl o2 bl2 th hf ol ke ∧ RowAt Hx r ρ ∧ i < 63 ∧
  ∀ (ol' ke' : Addr) (H' : Hp), Iv C w ns H0 H' (i + 1) o bl o2 bl2 th hf ol' ke' → D.nx (st17 a w o o2 th hf ol' ke' (ns.length : Int) (some (.int (2 + (i : Int)))) (some (.ref r)) v3 v4) H'
section
variable {P : Program} {w : World} {K : PySem.W.Frag} {mg : Str → Option Value} {base : Heap}
def spLaw (K : PySem.W.Frag) : Sp := fun vs H Q _ => ∃ (a : Addr) (ns : List Int), vs = [.ref a] ∧ SqL K H a (ns.map V.int) ∧ ns.length ≤ 63 ∧ ∀ H', Q (.bl true) H'
theorem scLaw : FnScope ["_law_script", "_law_word", "_law_spot", "_law_order", "_law_other", "_law_there", "_law_half", "_law_older", "_law_kept", "_law_last", "_law_k", "_law_row", "_law_other_cell", "_law_least", "_law_due", "_law_handed", "_law_made"] ["_law_script"] (defScope sLaw) := ⟨rfl, rfl, rfl, by decide +kernel, rfl, by decide +kernel, by decide +kernel⟩
theorem ok_law {f C fI fTk fLt fRo fBt fAt fDr fFar fMv fRt fSB fS fWi : Addr} {fd fdI fdTk fdLt fdRo fdBt fdAt fdDr fdFar fdMv fdRt fdSB fdS fdWi : FuncData} (F : Fun K "law" "law" sLaw f fd) (T : Txt K mg C) (B' : Bt mg) (M : Mk K C fI)
    (bI : Binds K fdI ["self", "word"] []) (GI : FnOk P w K mg base CX0 2 fI fdI ["self", "word"] (spInit C))
    (mTk : Mf K C "take_in" fTk fdTk ["self", "row"]) (GTk : FnOk P w K mg base CX0 4 fTk fdTk ["self", "row"] (spTake C)) (mLt : Mf K C "let_out" fLt fdLt ["self", "row"]) (GLt : FnOk P w K mg base CX0 4 fLt fdLt ["self", "row"] (spLet C))
    (mRo : Mf K C "rows" fRo fdRo ["self"]) (GRo : FnOk P w K mg base CX0 1 fRo fdRo ["self"] (spRows C)) (mBt : Mf K C "between" fBt fdBt ["self", "low", "high"]) (GBt : FnOk P w K mg base CX0 4 fBt fdBt ["self", "low", "high"] (spBetw C))
    (gAt : Gf K mg "_law_at" fAt fdAt ["_law_script", "_law_k"]) (GAt : FnOk P w K mg base CX0 1 fAt fdAt ["_law_script", "_law_k"] (spAt K)) (gDr : Gf K mg "_law_drawn_row" fDr fdDr ["_law_number", "_law_cell"]) (GDr : FnOk P w K mg base CX0 2 fDr fdDr ["_law_number", "_law_cell"] spDrawn)
    (gFar : Gf K mg "_law_far" fFar fdFar ["_law_number"]) (GFar : FnOk P w K mg base CX0 1 fFar fdFar ["_law_number"] spFar) (gMv : Gf K mg "_law_row_moved" fMv fdMv ["_law_row", "_law_seed"]) (GMv : FnOk P w K mg base CX0 3 fMv fdMv ["_law_row", "_law_seed"] spMoved)
    (gRt : Gf K mg "_law_order_right" fRt fdRt ["_law_order", "_law_there", "_law_spot", "_law_row", "_law_word"]) (GRt : FnOk P w K mg base CX0 5 fRt fdRt ["_law_order", "_law_there", "_law_spot", "_law_row", "_law_word"] (spRight C))
    (gSB : Gf K mg "_law_sorted_by" fSB fdSB ["_law_rows", "_law_spot"]) (GSB : FnOk P w K mg base CX0 1 fSB fdSB ["_law_rows", "_law_spot"] spSortBy) (gS : Gf K mg "_law_same" fS fdS ["_law_found", "_law_due"]) (GS : FnOk P w K mg base CX0 2 fS fdS ["_law_found", "_law_due"] spSame)
    (gWi : Gf K mg "order_with" fWi fdWi ["word", "rows"]) (GWi : FnOk P w K mg base CX0 5 fWi fdWi ["word", "rows"] (spWith C)) : FnOk P w K mg base CX0 6 f fd ["_law_script"] (spLaw K) := by
  refine F.ok scLaw (fun vs H Q E h => ?_) (fun cdv A outer s H vs Q E hr h => ?_)
  · obtain ⟨a, ns, rfl, _⟩ := h
    rfl
  · obtain ⟨a, ns, rfl, hS, hlen, fin⟩ := h
    have hr1 : Room 1 _ := hr.mono (by decide)
    have hr2 : Room 2 _ := hr.mono (by decide)
    have hr3 : Room 3 _ := hr.mono (by decide)
    have hr4 : Room 4 _ := hr.mono (by decide)
    have hu := hr.units0
    refine ⟨_, (pss_cons (ps_set (i := 1) scLaw.nd rfl (Or.inl rfl) (pe_ix ix_list (pe_lst (pa_cons pe_str (pa_cons pe_str pa_nil))) (pe_op op_mod (pe_call GAt hr1 rfl gAt.mg gAt.kp gAt.b .nil pass0 (pa_cons (pv 0) (pa_cons pe_int pa_nil))) pe_int) (fun _ _ => rfl)))
      (pss_cons (ps_set (i := 2) scLaw.nd rfl (Or.inl rfl) (pe_op op_add pe_int (pe_op op_mod (pe_call GAt hr1 rfl gAt.mg gAt.kp gAt.b .nil pass0 (pa_cons (pv 0) (pa_cons pe_int pa_nil))) pe_int)))
      (pss_cons (ps_set (i := 3) scLaw.nd rfl (Or.inl rfl) (pe_make M GI hr3 rfl T.mgC bI .nil pass0 (pa_cons (pv 1) pa_nil)))
      (pss_cons (ps_set (i := 4) scLaw.nd rfl (Or.inl rfl) (pe_make M GI hr3 rfl T.mgC bI .nil pass0 (pa_cons (pe_ix ix_list (pe_lst (pa_cons pe_str (pa_cons pe_str pa_nil))) (pe_op op_mod (pe_call GAt hr1 rfl gAt.mg gAt.kp gAt.b .nil pass0 (pa_cons (pv 0) (pa_cons pe_int pa_nil))) pe_int) (fun _ _ => rfl)) pa_nil)))
      (pss_cons (ps_set (i := 5) scLaw.nd rfl (Or.inl rfl) (pe_lst pa_nil))
      (pss_cons (ps_set (i := 6) scLaw.nd rfl (Or.inl rfl) (pe_lst pa_nil))
      (pss_cons (ps_set (i := 7) scLaw.nd rfl (Or.inl rfl) (pe_lst pa_nil))
      (pss_cons (ps_set (i := 8) scLaw.nd rfl (Or.inl rfl) (pe_lst pa_nil))
      (pss_cons (ps_set (i := 9) scLaw.nd rfl (Or.inl rfl) (pe_callB (call_min2 rfl) (by rfl) B'.min PyProof.Rows.boot_min (pa_cons (pe_callB call_len_seq (by rfl) B'.len PySem.boot_len (pa_cons (pv 0) pa_nil)) (pa_cons pe_int pa_nil))))
      (pss_cons (ps_for PassesOwn.never rfl (pi_range2 rfl B'.range (pa_cons pe_int (pa_cons (pv 9) pa_nil))) (pg_name (i := 10) scLaw.nd rfl (Or.inl rfl)) (pss_cons (ps_set (i := 11) scLaw.nd rfl (Or.inl rfl) (pe_call GDr hr2 rfl gDr.mg gDr.kp gDr.b .nil pass0 (pa_cons (pe_call GFar hr1 rfl gFar.mg gFar.kp gFar.b .nil pass0 (pa_cons (pe_op op_mod (pe_op op_add (pe_op op_mul pe_int (pv 10)) (pe_ix ix_list (pv 0) pe_int (fun _ _ => rfl))) pe_int) pa_nil)) (pa_cons (pe_ix ix_list (pv 0) (pv 10) (fun _ _ => rfl)) pa_nil))))
      (pss_cons (ps_set (i := 11) scLaw.nd rfl (Or.inl rfl) (pe_call GMv hr3 rfl gMv.mg gMv.kp gMv.b .nil pass0 (pa_cons (pv 11) (pa_cons (pe_ix ix_list (pv 0) pe_int (fun _ _ => rfl)) pa_nil))))
      (pss_cons (ps_set (i := 12) scLaw.nd rfl (Or.inl rfl) (pe_ix ix_list (pv 0) (pe_op op_sub (pe_op op_add (pv 9) pe_int) (pv 10)) (fun _ _ => rfl)))
      (pss_cons (ps_set (i := 13) scLaw.nd rfl (Or.inl rfl) (pe_ix ix_list (pe_lst (pa_cons pe_int (pa_cons pe_int pa_nil))) (pe_callTy call_int1 (by rfl) B'.int b_int (pa_cons (pe_cmpR op_gt (pe_op op_mul pe_int (pv 10)) (pe_op op_add (pv 9) pe_int) (nomark _)) pa_nil)) (fun _ _ => rfl)))
      (pss_cons (ps_weak (t' := tStep C (wOf (ns.headD 0)) ns a H) (ps_if (PW.pt (pw_and (pt_cmpR op_ge (pe_op op_mod (pv 12) pe_int) (pv 13) (nomark _)) (pw_and1 (pt_cmpR (op_neNil hu) (pv 5) (pe_lst pa_nil) (nomark _))))) (pss_cons (ps_set (i := 11) scLaw.nd rfl (Or.inl rfl) (pe_bm PySem.F.plainAttrs_list PySem.F.slot_list_pop PySem.F.type_list_pop mt_popAt (pv 5) (pa_cons (pe_op op_mod (pe_op op_fdiv (pv 12) pe_int) (pe_callB call_len_seq (by rfl) B'.len PySem.boot_len (pa_cons (pv 5) pa_nil))) pa_nil)))
      (pss_one (ps_expr (pe_meth (pv 3) T.cl mLt.m GLt hr4 mLt.b .nil pass0 (pa_cons (pv 11) pa_nil))))) (pss_weak (t' := tStep C (wOf (ns.headD 0)) ns a H) (pss_cons (ps_expr (pe_meth (pv 3) T.cl mTk.m GTk hr4 mTk.b .nil pass0 (pa_cons (pv 11) pa_nil)))
      (pss_cons (ps_expr (pe_bm PySem.F.plainAttrs_list PySem.F.slot_list_append PySem.F.type_list_append mt_append (pv 5) (pa_cons (pv 11) pa_nil)))
      (pss_one (ps_if (pt_cmpR op_eq (pe_op op_mod (pv 10) pe_int) pe_int (nomark _)) (pss_cons (ps_expr (pe_meth (pv 4) T.cl mTk.m GTk hr4 mTk.b .nil pass0 (pa_cons (pv 11) pa_nil)))
      (pss_one (ps_expr (pe_bm PySem.F.plainAttrs_list PySem.F.slot_list_append PySem.F.type_list_append mt_append (pv 6) (pa_cons (pv 11) pa_nil))))) pss_nil)))) ?hE)) ?hS)
      (pss_one (ps_weak (t' := tCheck C (wOf (ns.headD 0)) ns a H) (ps_if (PW.pt (pw_or (pt_cmpR op_eq (pe_op op_mod (pv 10) pe_int) pe_int (nomark _)) (pw_or1 (pt_cmpR op_eq (pv 10) (pe_op op_sub (pv 9) pe_int) (nomark _))))) (pss_weak (t' := tCheck C (wOf (ns.headD 0)) ns a H) (pss_cons (ps_if (PW.pt (pw_or (pt_not (pt_val (pe_call GRt hr rfl gRt.mg gRt.kp gRt.b .nil pass0 (pa_cons (pv 3) (pa_cons (pv 5) (pa_cons (pv 2) (pa_cons (pv 11) (pa_cons (pv 1) pa_nil)))))))) (pw_or1 (pt_cmpR (op_neSame2 (hu_of hr)) (pv 7) (pv 8) (nomark _))))) (pss_one (ps_ret pe_bl)) pss_nil)
      (pss_cons (ps_set (i := 7) scLaw.nd rfl (Or.inl rfl) (pe_lst (pa_cons (pe_meth0 (pv 3) T.cl mRo.m GRo hr1 mRo.b .nil pass0) (pa_cons (pe_meth (pv 3) T.cl mBt.m GBt hr4 mBt.b .nil pass0 (pa_cons (pe_ix ix_tup (pv 11) (pv 2) (fun _ _ => rfl)) (pa_cons (pe_ix ix_tup (pv 11) (pv 2) (fun _ _ => rfl)) pa_nil))) pa_nil))))
      (pss_one (ps_setComp (k := 8) (x := "_law_one") (fns := []) (js := []) rfl
            ⟨rfl, by decide +kernel, by decide +kernel, rfl, by decide +kernel, by decide +kernel, rfl, by simp, rfl, by decide +kernel⟩
            (pi_list (pv 7)) (fun _ _ _ _ => pifs_nil) (fun _ _ _ _ => pe_callTy (call_listK K) (by rfl) B'.list b_list (pa_cons (pv 0) pa_nil)) scLaw.nd rfl (Or.inl rfl))))) ?hB) pss_nil) ?hC))))))))
      (pss_cons (ps_set (i := 14) scLaw.nd rfl (Or.inl rfl) (pe_call GSB hr1 rfl gSB.mg gSB.kp gSB.b .nil pass0 (pa_cons (pv 6) (pa_cons (pe_op op_sub pe_int (pv 2)) pa_nil))))
      (pss_cons (ps_if (pt_not (pt_val (pe_call GS hr2 rfl gS.mg gS.kp gS.b .nil pass0 (pa_cons (pe_meth0 (pv 4) T.cl mRo.m GRo hr1 mRo.b .nil pass0) (pa_cons (pv 14) pa_nil))))) (pss_one (ps_ret pe_bl)) pss_nil)
      (pss_cons (ps_expr (pe_bm0 PySem.F.plainAttrs_list PySem.F.slot_list_clear PySem.F.type_list_clear mt_clear (pe_meth0 (pv 4) T.cl mRo.m GRo hr1 mRo.b .nil pass0)))
      (pss_cons (ps_set (i := 15) scLaw.nd rfl (Or.inl rfl) (pe_callTy call_list_of (by rfl) B'.list b_list (pa_cons (pv 6) pa_nil)))
      (pss_cons (ps_set (i := 16) scLaw.nd rfl (Or.inl rfl) (pe_call GWi hr rfl gWi.mg gWi.kp gWi.b .nil pass0 (pa_cons (pe_ix ix_list (pe_lst (pa_cons pe_str (pa_cons pe_str pa_nil))) (pe_op op_mod (pe_call GAt hr1 rfl gAt.mg gAt.kp gAt.b .nil pass0 (pa_cons (pv 0) (pa_cons pe_int pa_nil))) pe_int) (fun _ _ => rfl)) (pa_cons (pv 15) pa_nil))))
      (pss_cons (ps_if (pt_cmpR (op_neSame hu) (pv 15) (pv 6) (nomark _)) (pss_one (ps_ret pe_bl)) pss_nil)
      (pss_cons (ps_expr (pe_bm0 PySem.F.plainAttrs_list PySem.F.slot_list_clear PySem.F.type_list_clear mt_clear (pv 15)))
      (pss_one (ps_ret (pe_and (pe_call GS hr2 rfl gS.mg gS.kp gS.b .nil pass0 (pa_cons (pe_meth0 (pv 4) T.cl mRo.m GRo hr1 mRo.b .nil pass0) (pa_cons (pv 14) pa_nil))) (pe_one (pe_call GS hr2 rfl gS.mg gS.kp gS.b .nil pass0 (pa_cons (pe_meth0 (pv 16) T.cl mRo.m GRo hr1 mRo.b .nil pass0) (pa_cons (pv 14) pa_nil)))))))))))))))))))))))), ?main⟩
    case hE =>
      rintro D σ Hx ⟨o, bl, o2, bl2, th, hf, ol, ke, r, i, oc, le, ρ, rfl, ⟨bas, bas2, ls, ks, B, B2, ρs, κs, W, G, G2, p, p2, N1, N2⟩, hr0, en, hi, k⟩
      obtain ⟨⟨dx, ho⟩, _⟩ := id W.O
      have n1 := N1.2.2
      have n2 := N2.2.2
      have hl1 : B.flatten.length < 10000 := by rw [p.length_eq]; omega
      have hl2 : B2.flatten.length < 10000 := by rw [p2.length_eq]; omega
      refine ⟨_, rfl, o, dx, _, rfl, ho, oflds_no _ _ (by decide +kernel) (by decide +kernel), _, rfl, _, o, bl, r, bas, B, ρ, rfl, W.O, hr0, G, fun x hx => N1.new (by omega) en x (p.mem_iff.mp hx), hl1, fun bas' B' H1 O1 G1 p1 S1 => ?_⟩
      have W1 := W.ord S1 O1
      have hr1' : RowAt H1 r ρ := (Mov.of_stp W.O S1).tup hr0
      obtain ⟨ts, ht1, hR1⟩ := id W1.t
      have hlt := hR1.len
      have hz1 : (ts.map V.ref).length < sizeLine := by rw [List.length_map]; exact small1000 (by omega)
      refine ⟨_, rfl, .inl ⟨rfl, _, SqL.of ht1⟩, _, rfl, th, _, _, rfl, rfl, ht1, hz1, ?_⟩
      have W2 := W1.setT (vs := ts.map V.ref ++ [V.ref r]) (ρs' := ρs ++ [ρ]) ⟨ts ++ [r], by rw [List.map_append]; exact upd_same, (RowsAt.app hR1 (.cons hr1' .nil)).same (NoTup.keep (NoTup.lst ht1))⟩
      have hr2' : RowAt (upd H1 th (.lst (ts.map V.ref ++ [V.ref r]))) r ρ := NoTup.keep (NoTup.lst ht1) _ _ hr1'
      have pN : B'.flatten.Perm (ρs ++ [ρ]) := p1.trans ((List.Perm.cons ρ p).trans (List.perm_append_singleton ρ _).symm)
      refine ⟨_, rfl, _, _, rfl, rfl, (show (0 : Int) < 2 by decide), rfl, _, rfl, ?_⟩
      refine ite2 (fun c => ?_) (fun c => k r ρ _ hr2' ⟨bas', bas2, ls, ks, B', B2, ρs ++ [ρ], κs, W2, G1, G2, pN, p2, N1.snoc (by omega) en, N2.up⟩)
      obtain ⟨⟨dx2, ho2⟩, _⟩ := id W2.O2
      refine ⟨_, rfl, o2, dx2, _, rfl, ho2, oflds_no _ _ (by decide +kernel) (by decide +kernel), _, rfl, _, o2, bl2, r, bas2, B2, ρ, rfl, W2.O2, hr2', G2, fun x hx => N2.new (by omega) en x (p2.mem_iff.mp hx), hl2, fun bas2' B2' H3 O3 G3 p3 S3 => ?_⟩
      have W3 := W2.oth S3 O3
      have hr3' : RowAt H3 r ρ := (Mov.of_stp W2.O2 S3).tup hr2'
      obtain ⟨us, hu1, hRu⟩ := id W3.h
      have hlu := hRu.len
      have hz2 : (us.map V.ref).length < sizeLine := by rw [List.length_map]; exact small1000 (by omega)
      refine ⟨_, rfl, .inl ⟨rfl, _, SqL.of hu1⟩, _, rfl, hf, _, _, rfl, rfl, hu1, hz2, ?_⟩
      have W4 := W3.setH (vs := us.map V.ref ++ [V.ref r]) (κs' := κs ++ [ρ]) ⟨us ++ [r], by rw [List.map_append]; exact upd_same, (RowsAt.app hRu (.cons hr3' .nil)).same (NoTup.keep (NoTup.lst hu1))⟩
      have hr4' : RowAt (upd H3 hf (.lst (us.map V.ref ++ [V.ref r]))) r ρ := NoTup.keep (NoTup.lst hu1) _ _ hr3'
      have pM : B2'.flatten.Perm (κs ++ [ρ]) := p3.trans ((List.Perm.cons ρ p2).trans (List.perm_append_singleton ρ _).symm)
      exact k r ρ _ hr4' ⟨bas', bas2', ls, ks, B', B2', ρs ++ [ρ], κs ++ [ρ], W4, G1, G3, pN, pM, N1.snoc (by omega) en, N2.snoc (by omega) en⟩
    case hS =>
      rintro D σ Hx q
      obtain ⟨o, bl, o2, bl2, th, hf, ol, ke, r, i, oc, le, ρ, rfl, Iv0, hr0, en, hi, k⟩ := id q
      refine ⟨_, rfl, _, _, rfl, rfl, (show (0 : Int) < 4 by decide), _, rfl, _, _, rfl, rfl, _, rfl, ?_⟩
      refine ite2 (fun c => ?_) (fun c => iteF q)
      obtain ⟨bas, bas2, ls, ks, B, B2, ρs, κs, W, G, G2, p, p2, N1, N2⟩ := id Iv0
      obtain ⟨ts, ht, hR⟩ := id W.t
      refine ⟨_, rfl, by show 0 ≤ sizeLine; decide, fun e1 he1 => ?_⟩
      have s1 : Same Hx (upd Hx e1 (.lst [])) := Same.upd_new he1
      refine ⟨th, e1, _, rfl, rfl, SqL.of (s1 _ _ ht), upd_same, _, rfl, ?_⟩
      refine ite2 (fun c2 => ?_) (fun c2 => ⟨o, bl, o2, bl2, th, hf, ol, ke, r, i, oc, le, ρ, rfl, Iv0.same s1, s1 _ _ hr0, en, hi, k⟩)
      have W1 := W.same s1
      have ht1 := s1 _ _ ht
      have hlt := hR.len
      have n1 := N1.2.2
      have hpos : 0 < ts.length := by
        cases ts with
        | nil => cases c2
        | cons _ _ => exact Nat.succ_pos _
      obtain ⟨j, hj, hjl⟩ : ∃ j : Nat, oc / 4 % (((ts.map V.ref).length : Nat) : Int) = (j : Int) ∧ j < ts.length := by
        rw [List.length_map]
        have h1 := Int.emod_nonneg (oc / 4) (show (ts.length : Int) ≠ 0 by omega)
        have h2 := Int.emod_lt_of_pos (oc / 4) (show (0 : Int) < (ts.length : Int) by omega)
        exact ⟨(oc / 4 % (ts.length : Int)).toNat, by omega, by omega⟩
      have hlp : (0 : Int) < (((ts.map V.ref).length : Nat) : Int) := by rw [List.length_map]; omega
      obtain ⟨ρ', hρ', hrr⟩ := hR.get' (List.getElem?_eq_getElem hjl)
      have gj : (ts.map V.ref)[j]? = some (V.ref ts[j]) := by rw [List.getElem?_map, List.getElem?_eq_getElem hjl]; rfl
      have hl63 : ts.length < 64 := by omega
      have hlo : -(2 ^ 63) ≤ oc / 4 % (((ts.map V.ref).length : Nat) : Int) := by rw [hj]; omega
      have hhi : oc / 4 % (((ts.map V.ref).length : Nat) : Int) < 2 ^ 63 := by rw [hj]; omega
      have sj : seqIndex? (oc / 4 % (((ts.map V.ref).length : Nat) : Int)) (ts.map V.ref).length = some j := by
        rw [hj, seqIndex_of (by omega) (by rw [List.length_map]; omega), Int.toNat_natCast]
      refine ⟨_, rfl, .inl ⟨rfl, _, SqL.of ht1⟩, _, rfl, _, _, rfl, rfl, ⟨by decide, by decide⟩, _, rfl, th, _, rfl, .inl (SqL.of ht1), _, _, rfl, rfl, hlp, ?_⟩
      refine ⟨th, _, _, j, V.ref ts[j], rfl, rfl, ht1, hlo, hhi, sj, gj, ?_⟩
      have ht2 : LstAt (upd (upd Hx e1 (.lst [])) th (.lst ((ts.map V.ref).eraseIdx j))) th (ρs.eraseIdx j) :=
        ⟨ts.eraseIdx j, by rw [erase_map]; exact upd_same, (RowsAt.eraseIdx j (hR.same fun b xs q => s1 _ _ q)).same (NoTup.keep (NoTup.lst ht1))⟩
      have W2 := W1.setT ht2
      have hrr2 : RowAt (upd (upd Hx e1 (.lst [])) th (.lst ((ts.map V.ref).eraseIdx j))) ts[j] ρ' := NoTup.keep (NoTup.lst ht1) _ _ (s1 _ _ hrr)
      obtain ⟨⟨dx, ho⟩, _⟩ := id W2.O
      have hl1 : B.flatten.length < 10000 := by rw [p.length_eq]; omega
      have hmem : ρ' ∈ B.flatten := p.mem_iff.mpr (List.mem_of_getElem? hρ')
      refine ⟨_, rfl, o, dx, _, rfl, ho, oflds_no _ _ (by decide +kernel) (by decide +kernel), _, rfl, _, o, bl, ts[j], bas, B, ρ', rfl, W2.O, hrr2, G, hmem, hl1, fun bas' B' H3 O3 G3 p3 S3 => ?_⟩
      have W3 := W2.ord S3 O3
      have pE : B'.flatten.Perm (ρs.eraseIdx j) := List.Perm.cons_inv ((p3.trans p).trans (perm_erase hρ'))
      exact k ts[j] ρ' H3 ((Mov.of_stp W2.O S3).tup hrr2) ⟨bas', bas2, ls, ks, B', B2, ρs.eraseIdx j, κs, W3, G3, G2, pE, p2, N1.erase j, N2.up⟩
    case hC =>
      rintro D σ Hx q
      obtain ⟨o, bl, o2, bl2, th, hf, ol, ke, r, i, v3, v4, ρ, rfl, Iv0, hr0, hi, k⟩ := id q
      refine ⟨_, rfl, _, _, rfl, rfl, (show (0 : Int) < 9 by decide), rfl, _, rfl, ?_⟩
      refine ite2 (fun c => iteT q) (fun c => ?_)
      refine ⟨_, rfl, _, rfl, _, _, rfl, rfl, rfl, _, rfl, ?_⟩
      exact ite2 (fun c => q) (fun c => k ol ke Hx Iv0)
    case hB =>
      rintro D σ Hx ⟨o, bl, o2, bl2, th, hf, ol, ke, r, i, v3, v4, ρ, rfl, ⟨bas, bas2, ls, ks, B, B2, ρs, κs, W, G, G2, p, p2, N1, N2⟩, hr0, hi, k⟩
      have n1 := N1.2.2
      have hl1 : B.flatten.length < 10000 := by rw [p.length_eq]; omega
      refine ⟨_, rfl, _, rfl, _, rfl, _, rfl, _, rfl, _, o, bl, th, r, bas, B, ρs, ρ, rfl, W.O, G, W.t, p, N1.1, (by omega), hr0, fun H1 s1 => ?_⟩
      have W1 := W.same s1
      refine ⟨_, rfl, ?_⟩
      refine ⟨_, rfl, _, rfl, ol, ke, ls, ks, rfl, rfl, SqL.of W1.old.1, SqL.of W1.old.2.1, Paired.mapP W1.old.2.2 (fun x y q => let ⟨as, e1, e2⟩ := q; ⟨as, SqL.of e1, SqL.of e2⟩), _, rfl, ?_⟩
      refine iteF ?_
      obtain ⟨⟨dx, ho⟩, _⟩ := id W1.O
      refine ⟨_, rfl, o, dx, _, rfl, ho, oflds_no _ _ (by decide +kernel) (by decide +kernel), _, o, bl, bas, B, rfl, W1.O, hl1, fun l1 H2 hf1 s2 hL1 => ?_⟩
      have s02 := s1.trans s2
      refine ⟨_, rfl, o, dx, _, rfl, s2 _ _ ho, oflds_no _ _ (by decide +kernel) (by decide +kernel), _, rfl, _, rfl, r, _, _, _, rfl, rfl, SqT.of (s02 _ _ hr0), spot_at _ ρ, _, rfl, _, rfl, r, _, _, _, rfl, rfl, SqT.of (s02 _ _ hr0), spot_at _ ρ, _, o, bl, bas, B, _, _, rfl, W1.O.same s2, alike_self _ ρ, alike_self _ ρ, G, hl1, fun l2 H3 hf2 s3 hL2 => ?_⟩
      have s03 := s02.trans s3
      refine ⟨by show 2 ≤ sizeLine; decide, fun ol' hol => ?_⟩
      have s4 : Same H3 (upd H3 ol' (.lst [V.ref l1, V.ref l2])) := Same.upd_new hol
      have s04 := s03.trans s4
      obtain ⟨as1, e1, _⟩ := id hL1
      obtain ⟨as2, e2, _⟩ := id hL2
      have f1 : Hx l1 = none := s1.free hf1
      have f2 : Hx l2 = none := s02.free hf2
      have f3 : Hx ol' = none := s03.free hol
      refine ⟨_, rfl, ol', rfl, ⟨_, SqL.of upd_same⟩, fun Lk hLk => comp_copies (ls := [l1, l2]) upd_same ?_ hLk (by show 2 < 1000; decide) (fun v H2 Qb q => q) (fun l xs H2 Q hl q => ⟨_, rfl, l, _, rfl, .inl (SqL.of hl), q⟩) fun H5 cs s5 hL5 hp5 hc5 => ?_⟩
      · intro l hl
        rcases List.mem_cons.mp hl with q | q
        · rw [q]; exact ⟨as1, s4 _ _ (s3 _ _ e1)⟩
        · rw [List.mem_singleton.mp q]; exact ⟨as2, s4 _ _ e2⟩
      have s05 := s04.trans s5
      refine k ol' Lk H5 ⟨bas, bas2, [l1, l2], cs, B, B2, ρs, κs, W.renew (H1 := H5) s05 ⟨s5 _ _ upd_same, hL5, hp5⟩ ?_, G, G2, p, p2, N1, N2⟩
      intro b hb
      simp only [List.mem_cons, List.mem_append, List.not_mem_nil, or_false] at hb
      rcases hb with q | q | (q | q) | q
      · rw [q]; exact f3
      · rw [q]; exact s04.free hLk
      · rw [q]; exact f1
      · rw [q]; exact f2
      · exact s04.free (hc5 b q)
    case main =>
      refine ⟨by show 2 ≤ sizeLine; decide, fun n1 hn1 => ?_⟩
      have s1 : Same H (upd H n1 (.lst [V.str "rank", V.str "text"])) := Same.upd_new hn1
      refine ⟨_, rfl, a, ns, rfl, s1.seq hS, by omega, fun H1 t1 => ?_⟩
      have s01 := s1.trans t1
      refine ⟨_, _, rfl, rfl, (show (0 : Int) < 2 by decide), n1, _, _, _, rfl, rfl, SqL.of (t1 _ _ upd_same), word_at _, ?_⟩
      refine ⟨_, rfl, a, ns, rfl, s01.seq hS, by omega, fun H2 t2 => ?_⟩
      have s02 := s01.trans t2
      refine ⟨_, _, rfl, rfl, (show (0 : Int) < 2 by decide), _, _, rfl, rfl, ?_⟩
      dsimp only
      rw [spot_of]
      generalize hw : wOf (ns.headD 0) = b
      refine ⟨_, rfl, fun o dx no ndx nex => ?_⟩
      refine ⟨b, o, dx, rfl, upd_same, fun bl H3 hbl O3 k3 => ⟨rfl, ?_⟩⟩
      obtain ⟨s3, hbl0⟩ := made_same no ndx hbl k3
      have s03 := s02.trans s3
      have hbl' : H bl = none := s02.free hbl0
      refine ⟨by show 2 ≤ sizeLine; decide, fun n2 hn2 => ?_⟩
      have s4 : Same H3 (upd H3 n2 (.lst [V.str "text", V.str "rank"])) := Same.upd_new hn2
      refine ⟨_, rfl, a, ns, rfl, (s03.trans s4).seq hS, by omega, fun H4 t4 => ?_⟩
      have s34 := s4.trans t4
      refine ⟨_, _, rfl, rfl, (show (0 : Int) < 2 by decide), n2, _, _, _, rfl, rfl, SqL.of (t4 _ _ upd_same), hw ▸ word_at' _, fun o2 dx2 no2 ndx2 nex2 => ?_⟩
      refine ⟨!b, o2, dx2, rfl, upd_same, fun bl2 H5 hbl2 O5 k5 => ⟨rfl, ?_⟩⟩
      obtain ⟨s5, hbl20⟩ := made_same no2 ndx2 hbl2 k5
      have s05 := (s03.trans s34).trans s5
      have hbl2' : H bl2 = none := (s03.trans s34).free hbl20
      have hne : bl ≠ bl2 := ne_of_none (s34 _ _ O3.ls) hbl20
      refine ⟨by show 0 ≤ sizeLine; decide, fun th hth => ⟨by show 0 ≤ sizeLine; decide, fun hf hhf => ⟨by show 0 ≤ sizeLine; decide, fun ol hol => ⟨by show 0 ≤ sizeLine; decide, fun ke hke => ?_⟩⟩⟩⟩
      have W0 := wd_start s05 ((O3.same s34).same s5) O5 hbl' hbl2' hne hth hhf hol hke
      refine ⟨_, rfl, a, _, rfl, .inl (W0.s0.seq hS), _, _, rfl, ?_⟩
      have hlast : (if (330 : Int) < (((ns.map V.int).length : Nat) : Int) then (330 : Int) else (((ns.map V.int).length : Nat) : Int)) = (ns.length : Int) := by
        rw [List.length_map, if_neg (by omega)]
      rw [hlast]
      have hG0 : ∀ w', GoodB w' [] := fun w' => ⟨by simp [Adj], by simp⟩
      refine ⟨_, rfl, 2, (ns.length : Int), rfl, ⟨by decide, by decide, by omega, by omega⟩, for_range (lo := 2) (n := ((ns.length : Int) - 2).toNat) (fun i σ Hx => ∃ (ol ke : Addr) (v1 v2 v3 v4 : Option V), σ = st17 a b o o2 th hf ol ke (ns.length : Int) v1 v2 v3 v4 ∧ Iv C b ns H Hx i o bl o2 bl2 th hf ol ke)
        ⟨ol, ke, none, none, none, none, rfl, [], [], [], [], [], [], [], [], W0, hG0 b, hG0 (!b), .refl _, .refl _, ⟨by simp, by simp, by simp⟩, ⟨by simp, by simp, by simp⟩⟩ ?_ ?_⟩
      · rintro i σ Hx hi ⟨ol, ke, v1, v2, v3, v4, rfl, Iv0⟩
        have hi' : i + 2 < ns.length := by omega
        obtain ⟨bas, bas2, ls, ks, B, B2, ρs, κs, W, _⟩ := id Iv0
        have sx := W.s0
        have a1 : atI (ns.map V.int) 1 = some (.int (ns.getD 1 0)) := cell_at (j := 1) (by omega) rfl
        have a0 : atI (ns.map V.int) 0 = some (.int (ns.getD 0 0)) := cell_at (j := 0) (by omega) rfl
        have ak : atI (ns.map V.int) (2 + (i : Int)) = some (.int (ns.getD (2 + i) 0)) := cell_at (j := 2 + i) (by omega) (by omega)
        have ac : atI (ns.map V.int) ((ns.length : Int) + 1 - (2 + (i : Int))) = some (.int (ns.getD (ns.length - 1 - i) 0)) := cell_at (j := ns.length - 1 - i) (by omega) (by omega)
        refine ⟨_, rfl, _, _, rfl, rfl, .inl ⟨by decide, by decide⟩, _, rfl, a, _, _, _, rfl, rfl, sx.seq hS, a1, _, _, rfl, rfl, _, _, rfl, rfl, (show (0 : Int) < 331 by decide), _, rfl, fun Ha sa => ?_⟩
        have sxa := sx.trans sa
        refine ⟨_, rfl, _, rfl, a, _, _, _, rfl, rfl, sxa.seq hS, ak, _, _, rfl, fun r0 ρ0 Hb hf0 sb hρ0 en0 ht0 => ?_⟩
        have sab := sa.trans sb
        refine ⟨_, rfl, _, rfl, a, _, _, _, rfl, rfl, (sxa.trans sb).seq hS, a0, r0, ρ0, _, rfl, hρ0, ht0, fun r ρ Hc hfr sc hρ en => ?_⟩
        have sac := sab.trans sc
        have sxc := sx.trans sac
        refine ⟨_, rfl, _, rfl, _, _, rfl, rfl, _, rfl, _, _, rfl, rfl, a, _, _, _, rfl, rfl, sxc.seq hS, ac, ?_⟩
        refine ⟨by show 2 ≤ sizeLine; decide, fun nl hnl => ?_⟩
        have sl : Same Hc (upd Hc nl (.lst [V.int 3, V.int 1])) := Same.upd_new hnl
        refine ⟨_, rfl, _, _, rfl, rfl, .inl ⟨by decide, by decide⟩, _, rfl, _, _, rfl, rfl, _, _, rfl, rfl, .inr ⟨_, rfl, ?_⟩⟩
        obtain ⟨le, hle⟩ := least_at (decide ((ns.length : Int) + 2 < 2 * (2 + (i : Int))))
        refine ⟨nl, _, _, _, rfl, rfl, SqL.of upd_same, hle, ?_⟩
        have hnum : ρ.n = num ns i := by rw [en, en0]; rfl
        refine ⟨o, bl, o2, bl2, th, hf, ol, ke, r, i, _, _, ρ, rfl, Iv0.same (sac.trans sl), sl _ _ hρ, hnum, by omega, fun r' ρ' H' hr' I2 => ?_⟩
        exact ⟨o, bl, o2, bl2, th, hf, ol, ke, r', i, _, _, ρ', rfl, I2, hr', by omega, fun ol' ke' H'' I3 => ⟨ol', ke', _, _, _, _, rfl, I3⟩⟩
      · rintro σ Hx ⟨ol, ke, v1, v2, v3, v4, rfl, bas, bas2, ls, ks, B, B2, ρs, κs, W, G, G2, p, p2, N1, N2⟩
        have n2 := N2.2.2
        have hl2 : B2.flatten.length < 10000 := by rw [p2.length_eq]; omega
        have hk64 : κs.length < 64 := by omega
        obtain ⟨⟨dx2, ho2⟩, _⟩ := id W.O2
        refine ⟨_, rfl, _, rfl, _, _, rfl, rfl, !b, hf, κs, ?_, W.h, N2.1, hk64, fun d due H1 hd s1 hd1 hκ hsr => ?_⟩
        · show [V.ref hf, V.int (3 - spotI b)] = _
          rw [spot_not]
        obtain rfl : due = B2.flatten := Srt.one (ltR_irrefl _) (ltR_trans _) hsr G2.srt (hκ.trans p2.symm)
        have hwt : (D.lst (B2.flatten.map rowD)).wt < 100000 := by simp only [D.wt, rows_wt]; omega
        have W1 := W.same s1
        refine ⟨_, rfl, o2, dx2, _, rfl, s1 _ _ ho2, oflds_no _ _ (by decide +kernel) (by decide +kernel), _, o2, bl2, bas2, B2, rfl, W1.O2, hl2, fun l1 H2 hf1 s2 hL1 => ?_⟩
        refine ⟨_, rfl, .lst (B2.flatten.map rowD), _, _, rfl, hL1.bears, (hd1.sameS s2).bears, hwt, fun H3 s3 => ?_⟩
        have s13 := s2.trans s3
        have W3 := W1.same s13
        refine ⟨_, rfl, iteF ?_⟩
        have hd3 := hd1.sameS s13
        have ho3 := s13 _ _ (s1 _ _ ho2)
        refine ⟨_, rfl, o2, dx2, _, rfl, ho3, oflds_no _ _ (by decide +kernel) (by decide +kernel), _, o2, bl2, bas2, B2, rfl, W3.O2, hl2, fun l2 H4 hf4 s4 hL4 => ?_⟩
        obtain ⟨q4, e4, _⟩ := id hL4
        refine ⟨.inl ⟨rfl, _, SqL.of e4⟩, l2, _, rfl, rfl, e4, ?_⟩
        have s35 : Same H3 (upd H4 l2 (.lst [])) := (Mov.upd e4).same s4 fun b' hb' => by rw [List.mem_singleton.mp hb']; exact hf4
        have W5 := W3.same s35
        have hd5 := hd3.sameS s35
        obtain ⟨us, hus, hRu⟩ := id W5.h
        refine ⟨_, rfl, hf, _, rfl, .inl (SqL.of hus), fun g hg => ?_⟩
        have s6 : Same (upd H4 l2 (.lst [])) (upd (upd H4 l2 (.lst [])) g (.lst (us.map V.ref))) := Same.upd_new hg
        have W6 := W5.same s6
        refine ⟨by show 2 ≤ sizeLine; decide, fun n3 hn3 => ?_⟩
        have s7 := Same.upd_new (o := .lst [V.str "text", V.str "rank"]) hn3
        refine ⟨_, rfl, a, ns, rfl, (W6.s0.trans s7).seq hS, by omega, fun H7 t7 => ?_⟩
        have s67 := s7.trans t7
        have W7 := W6.same s67
        have hg7 : H7 g = some (.lst (us.map V.ref)) := s67 _ _ upd_same
        have hR7 : RowsAt H7 us κs := hRu.same fun c xs q => s67 _ _ (s6 _ _ q)
        refine ⟨_, _, rfl, rfl, (show (0 : Int) < 2 by decide), n3, _, _, _, rfl, rfl, SqL.of (t7 _ _ upd_same), hw ▸ word_at' _, _, rfl, !b, g, κs, rfl, ⟨us, hg7, hR7⟩, N2.1, by omega, fun om blm basm Bm H8 hom hfm Om Gm pm s8 => ?_⟩
        have W8 := W7.same s8
        have hg8 := s8 _ _ hg7
        have hus8 := s8 _ _ (s67 _ _ (s6 _ _ hus))
        have hd8 := hd5.sameS ((s6.trans s67).trans s8)
        refine ⟨_, rfl, _, rfl, g, hf, us, rfl, rfl, SqL.of hg8, SqL.of hus8, _, rfl, iteF ?_⟩
        refine ⟨_, rfl, .inl ⟨rfl, _, SqL.of hg8⟩, g, _, rfl, rfl, hg8, ?_⟩
        have m9 : Mov H8 (upd H8 g (.lst [])) [g] := Mov.upd hg8
        have O9 : OrdAt C (!b) (upd H8 g (.lst [])) o2 bl2 bas2 B2 := m9.ord W8.O2 fun c hc hq => by
          obtain ⟨xs, e⟩ := W5.O2.lists c hc
          rw [List.mem_singleton.mp hq, hg] at e; cases e
        have M9 : OrdAt C (!b) (upd H8 g (.lst [])) om blm basm Bm := m9.ord Om fun c hc hq => by
          have e := hfm c hc
          rw [List.mem_singleton.mp hq, hg7] at e; cases e
        have hd9 : LstAt (upd H8 g (.lst [])) d B2.flatten := m9.lstAt hd8 fun hq => by
          obtain ⟨xs, e⟩ := lst_has hd5
          rw [List.mem_singleton.mp hq, hg] at e; cases e
        have eM : Bm.flatten = B2.flatten := Srt.one (ltR_irrefl _) (ltR_trans _) Gm.srt G2.srt (pm.trans p2.symm)
        have hlm : Bm.flatten.length < 10000 := by rw [eM]; exact hl2
        obtain ⟨⟨dy, hy⟩, _⟩ := id O9
        obtain ⟨⟨dz, hz⟩, _⟩ := id M9
        refine ⟨_, rfl, o2, dy, _, rfl, hy, oflds_no _ _ (by decide +kernel) (by decide +kernel), _, o2, bl2, bas2, B2, rfl, O9, hl2, fun l5 H10 hf5 s10 hL5 => ?_⟩
        refine ⟨_, rfl, .lst (B2.flatten.map rowD), _, _, rfl, hL5.bears, (hd9.sameS s10).bears, hwt, fun H11 s11 => ?_⟩
        have s9' := s10.trans s11
        refine ⟨_, rfl, iteT ?_⟩
        refine ⟨_, rfl, om, dz, _, rfl, s9' _ _ hz, oflds_no _ _ (by decide +kernel) (by decide +kernel), _, om, blm, basm, Bm, rfl, M9.same s9', hlm, fun l6 H12 hf6 s12 hL6 => ?_⟩
        rw [eM] at hL6
        exact ⟨_, rfl, .lst (B2.flatten.map rowD), _, _, rfl, hL6.bears, (hd9.sameS (s9'.trans s12)).bears, hwt, fun H13 s13 => fin H13⟩
end
end K1

set_option linter.all false
set_option maxRecDepth 100000
set_option maxHeartbeats 4000000
namespace K1
open PySem L2 TO
theorem all_mk {l : PySem.W.OpenLaw} {w : World} {K : PySem.W.Frag} {h : Heap} {mg : Str → Option Value} {fa C : Addr} (X : K.In h) (G : h.Ns mainGlobals mg) (hfa : mg "law" = some (.ref fa))
    {t1 t2 t3 t4 : Tok}
    {fInit : Addr} {odInit anInit : Option Addr} {slInit : Array (Option Value)} {ocInit kVInit dcInit pmInit cdInit ctInit : Value}
    {fTake : Addr} {odTake anTake : Option Addr} {slTake : Array (Option Value)} {ocTake kVTake dcTake pmTake cdTake ctTake : Value}
    {fLet : Addr} {odLet anLet : Option Addr} {slLet : Array (Option Value)} {ocLet kVLet dcLet pmLet cdLet ctLet : Value}
    {fRows : Addr} {odRows anRows : Option Addr} {slRows : Array (Option Value)} {ocRows kVRows dcRows pmRows cdRows ctRows : Value}
    {fAhead : Addr} {odAhead anAhead : Option Addr} {slAhead : Array (Option Value)} {ocAhead kVAhead dcAhead pmAhead cdAhead ctAhead : Value}
    {fBetw : Addr} {odBetw anBetw : Option Addr} {slBetw : Array (Option Value)} {ocBetw kVBetw dcBetw pmBetw cdBetw ctBetw : Value}
    {fBA : Addr} {odBA anBA : Option Addr} {slBA : Array (Option Value)} {ocBA kVBA dcBA pmBA cdBA ctBA : Value}
    {fRA : Addr} {odRA anRA : Option Addr} {slRA : Array (Option Value)} {ocRA kVRA dcRA pmRA cdRA ctRA : Value}
    {fSplit : Addr} {odSplit anSplit : Option Addr} {slSplit : Array (Option Value)} {ocSplit kVSplit dcSplit pmSplit cdSplit ctSplit : Value}
    {fJoin : Addr} {odJoin anJoin : Option Addr} {slJoin : Array (Option Value)} {ocJoin kVJoin dcJoin pmJoin cdJoin ctJoin : Value}
    {fCW : Addr} {odCW anCW : Option Addr} {slCW : Array (Option Value)} {ocCW kVCW dcCW pmCW cdCW ctCW : Value}
    {fLead : Addr} {odLead anLead : Option Addr} {slLead : Array (Option Value)} {ocLead kVLead dcLead pmLead cdLead ctLead : Value}
    {fKey : Addr} {odKey anKey : Option Addr} {slKey : Array (Option Value)} {ocKey kVKey dcKey pmKey cdKey ctKey : Value}
    {fWith : Addr} {odWith anWith : Option Addr} {slWith : Array (Option Value)} {ocWith kVWith dcWith pmWith cdWith ctWith : Value}
    {fWhole : Addr} {odWhole anWhole : Option Addr} {slWhole : Array (Option Value)} {ocWhole kVWhole dcWhole pmWhole cdWhole ctWhole : Value}
    {fAt : Addr} {odAt anAt : Option Addr} {slAt : Array (Option Value)} {ocAt kVAt dcAt pmAt cdAt ctAt : Value}
    {fSame : Addr} {odSame anSame : Option Addr} {slSame : Array (Option Value)} {ocSame kVSame dcSame pmSame cdSame ctSame : Value}
    {fTexts : Addr} {odTexts anTexts : Option Addr} {slTexts : Array (Option Value)} {ocTexts kVTexts dcTexts pmTexts cdTexts ctTexts : Value}
    {fDrawn : Addr} {odDrawn anDrawn : Option Addr} {slDrawn : Array (Option Value)} {ocDrawn kVDrawn dcDrawn pmDrawn cdDrawn ctDrawn : Value}
    {fFar : Addr} {odFar anFar : Option Addr} {slFar : Array (Option Value)} {ocFar kVFar dcFar pmFar cdFar ctFar : Value}
    {fIsRow : Addr} {odIsRow anIsRow : Option Addr} {slIsRow : Array (Option Value)} {ocIsRow kVIsRow dcIsRow pmIsRow cdIsRow ctIsRow : Value}
    {fAreRows : Addr} {odAreRows anAreRows : Option Addr} {slAreRows : Array (Option Value)} {ocAreRows kVAreRows dcAreRows pmAreRows cdAreRows ctAreRows : Value}
    {fGoodBl : Addr} {odGoodBl anGoodBl : Option Addr} {slGoodBl : Array (Option Value)} {ocGoodBl kVGoodBl dcGoodBl pmGoodBl cdGoodBl ctGoodBl : Value}
    {fSortBy : Addr} {odSortBy anSortBy : Option Addr} {slSortBy : Array (Option Value)} {ocSortBy kVSortBy dcSortBy pmSortBy cdSortBy ctSortBy : Value}
    {fRight : Addr} {odRight anRight : Option Addr} {slRight : Array (Option Value)} {ocRight kVRight dcRight pmRight cdRight ctRight : Value}
    {fStep : Addr} {odStep anStep : Option Addr} {slStep : Array (Option Value)} {ocStep kVStep dcStep pmStep cdStep ctStep : Value}
    {fRaised : Addr} {odRaised anRaised : Option Addr} {slRaised : Array (Option Value)} {ocRaised kVRaised dcRaised pmRaised cdRaised ctRaised : Value}
    {fRanked : Addr} {odRanked anRanked : Option Addr} {slRanked : Array (Option Value)} {ocRanked kVRanked dcRanked pmRanked cdRanked ctRanked : Value}
    {fSigned : Addr} {odSigned anSigned : Option Addr} {slSigned : Array (Option Value)} {ocSigned kVSigned dcSigned pmSigned cdSigned ctSigned : Value}
    {fMoved : Addr} {odMoved anMoved : Option Addr} {slMoved : Array (Option Value)} {ocMoved kVMoved dcMoved pmMoved cdMoved ctMoved : Value}
    {fLaw : Addr} {odLaw anLaw : Option Addr} {slLaw : Array (Option Value)} {ocLaw kVLaw dcLaw pmLaw cdLaw ctLaw : Value}
    (aC : PySem.W.nsIn K mainGlobals "Order" = some (some (.ref C)))
    (aInit : PySem.W.findIn K (.ref C) "__init__" = some (some (.ref fInit))) (iInit : PySem.W.isFn K (.ref fInit) = true)
    (lInit : K.lookup fInit = some ⟨ocInit, odInit, .func (PySem.W.fnOf "__init__" "Order.__init__" (defArgs sInit) (defBody sInit) (defScope sInit) .none kVInit dcInit pmInit anInit cdInit ctInit), slInit⟩) (cInit : PySem.W.codeIn K cdInit "Order.__init__" = true) (kInit : PySem.W.keepIn K (.ref fInit) = true)
    (aTake : PySem.W.findIn K (.ref C) "take_in" = some (some (.ref fTake))) (iTake : PySem.W.isFn K (.ref fTake) = true)
    (lTake : K.lookup fTake = some ⟨ocTake, odTake, .func (PySem.W.fnOf "take_in" "Order.take_in" (defArgs sTake) (defBody sTake) (defScope sTake) .none kVTake dcTake pmTake anTake cdTake ctTake), slTake⟩) (cTake : PySem.W.codeIn K cdTake "Order.take_in" = true) (kTake : PySem.W.keepIn K (.ref fTake) = true)
    (aLet : PySem.W.findIn K (.ref C) "let_out" = some (some (.ref fLet))) (iLet : PySem.W.isFn K (.ref fLet) = true)
    (lLet : K.lookup fLet = some ⟨ocLet, odLet, .func (PySem.W.fnOf "let_out" "Order.let_out" (defArgs sLet) (defBody sLet) (defScope sLet) .none kVLet dcLet pmLet anLet cdLet ctLet), slLet⟩) (cLet : PySem.W.codeIn K cdLet "Order.let_out" = true) (kLet : PySem.W.keepIn K (.ref fLet) = true)
    (aRows : PySem.W.findIn K (.ref C) "rows" = some (some (.ref fRows))) (iRows : PySem.W.isFn K (.ref fRows) = true)
    (lRows : K.lookup fRows = some ⟨ocRows, odRows, .func (PySem.W.fnOf "rows" "Order.rows" (defArgs sRows) (defBody sRows) (defScope sRows) .none kVRows dcRows pmRows anRows cdRows ctRows), slRows⟩) (cRows : PySem.W.codeIn K cdRows "Order.rows" = true) (kRows : PySem.W.keepIn K (.ref fRows) = true)
    (aAhead : PySem.W.findIn K (.ref C) "ahead_of" = some (some (.ref fAhead))) (iAhead : PySem.W.isFn K (.ref fAhead) = true)
    (lAhead : K.lookup fAhead = some ⟨ocAhead, odAhead, .func (PySem.W.fnOf "ahead_of" "Order.ahead_of" (defArgs sAhead) (defBody sAhead) (defScope sAhead) .none kVAhead dcAhead pmAhead anAhead cdAhead ctAhead), slAhead⟩) (cAhead : PySem.W.codeIn K cdAhead "Order.ahead_of" = true) (kAhead : PySem.W.keepIn K (.ref fAhead) = true)
    (aBetw : PySem.W.findIn K (.ref C) "between" = some (some (.ref fBetw))) (iBetw : PySem.W.isFn K (.ref fBetw) = true)
    (lBetw : K.lookup fBetw = some ⟨ocBetw, odBetw, .func (PySem.W.fnOf "between" "Order.between" (defArgs sBetw) (defBody sBetw) (defScope sBetw) .none kVBetw dcBetw pmBetw anBetw cdBetw ctBetw), slBetw⟩) (cBetw : PySem.W.codeIn K cdBetw "Order.between" = true) (kBetw : PySem.W.keepIn K (.ref fBetw) = true)
    (aBA : PySem.W.findIn K (.ref C) "blocks_ahead" = some (some (.ref fBA))) (iBA : PySem.W.isFn K (.ref fBA) = true)
    (lBA : K.lookup fBA = some ⟨ocBA, odBA, .func (PySem.W.fnOf "blocks_ahead" "Order.blocks_ahead" (defArgs sBA) (defBody sBA) (defScope sBA) .none kVBA dcBA pmBA anBA cdBA ctBA), slBA⟩) (cBA : PySem.W.codeIn K cdBA "Order.blocks_ahead" = true) (kBA : PySem.W.keepIn K (.ref fBA) = true)
    (aRA : PySem.W.findIn K (.ref C) "rows_ahead" = some (some (.ref fRA))) (iRA : PySem.W.isFn K (.ref fRA) = true)
    (lRA : K.lookup fRA = some ⟨ocRA, odRA, .func (PySem.W.fnOf "rows_ahead" "Order.rows_ahead" (defArgs sRA) (defBody sRA) (defScope sRA) .none kVRA dcRA pmRA anRA cdRA ctRA), slRA⟩) (cRA : PySem.W.codeIn K cdRA "Order.rows_ahead" = true) (kRA : PySem.W.keepIn K (.ref fRA) = true)
    (aSplit : PySem.W.findIn K (.ref C) "split_block" = some (some (.ref fSplit))) (iSplit : PySem.W.isFn K (.ref fSplit) = true)
    (lSplit : K.lookup fSplit = some ⟨ocSplit, odSplit, .func (PySem.W.fnOf "split_block" "Order.split_block" (defArgs sSplit) (defBody sSplit) (defScope sSplit) .none kVSplit dcSplit pmSplit anSplit cdSplit ctSplit), slSplit⟩) (cSplit : PySem.W.codeIn K cdSplit "Order.split_block" = true) (kSplit : PySem.W.keepIn K (.ref fSplit) = true)
    (aJoin : PySem.W.findIn K (.ref C) "join_if_few" = some (some (.ref fJoin))) (iJoin : PySem.W.isFn K (.ref fJoin) = true)
    (lJoin : K.lookup fJoin = some ⟨ocJoin, odJoin, .func (PySem.W.fnOf "join_if_few" "Order.join_if_few" (defArgs sJoin) (defBody sJoin) (defScope sJoin) .none kVJoin dcJoin pmJoin anJoin cdJoin ctJoin), slJoin⟩) (cJoin : PySem.W.codeIn K cdJoin "Order.join_if_few" = true) (kJoin : PySem.W.keepIn K (.ref fJoin) = true)
    (aCW : PySem.W.nsIn K mainGlobals "check_word" = some (some (.ref fCW)))
    (lCW : K.lookup fCW = some ⟨ocCW, odCW, .func (PySem.W.fnOf "check_word" "check_word" (defArgs sCW) (defBody sCW) (defScope sCW) .none kVCW dcCW pmCW anCW cdCW ctCW), slCW⟩) (cCW : PySem.W.codeIn K cdCW "check_word" = true) (kCW : PySem.W.keepIn K (.ref fCW) = true)
    (aLead : PySem.W.nsIn K mainGlobals "lead_of" = some (some (.ref fLead)))
    (lLead : K.lookup fLead = some ⟨ocLead, odLead, .func (PySem.W.fnOf "lead_of" "lead_of" (defArgs sLead) (defBody sLead) (defScope sLead) .none kVLead dcLead pmLead anLead cdLead ctLead), slLead⟩) (cLead : PySem.W.codeIn K cdLead "lead_of" = true) (kLead : PySem.W.keepIn K (.ref fLead) = true)
    (aKey : PySem.W.nsIn K mainGlobals "key_of" = some (some (.ref fKey)))
    (lKey : K.lookup fKey = some ⟨ocKey, odKey, .func (PySem.W.fnOf "key_of" "key_of" (defArgs sKey) (defBody sKey) (defScope sKey) .none kVKey dcKey pmKey anKey cdKey ctKey), slKey⟩) (cKey : PySem.W.codeIn K cdKey "key_of" = true) (kKey : PySem.W.keepIn K (.ref fKey) = true)
    (aWith : PySem.W.nsIn K mainGlobals "order_with" = some (some (.ref fWith)))
    (lWith : K.lookup fWith = some ⟨ocWith, odWith, .func (PySem.W.fnOf "order_with" "order_with" (defArgs sWith) (defBody sWith) (defScope sWith) .none kVWith dcWith pmWith anWith cdWith ctWith), slWith⟩) (cWith : PySem.W.codeIn K cdWith "order_with" = true) (kWith : PySem.W.keepIn K (.ref fWith) = true)
    (aWhole : PySem.W.nsIn K mainGlobals "_law_whole" = some (some (.ref fWhole)))
    (lWhole : K.lookup fWhole = some ⟨ocWhole, odWhole, .func (PySem.W.fnOf "_law_whole" "_law_whole" (defArgs sWhole) (defBody sWhole) (defScope sWhole) .none kVWhole dcWhole pmWhole anWhole cdWhole ctWhole), slWhole⟩) (cWhole : PySem.W.codeIn K cdWhole "_law_whole" = true) (kWhole : PySem.W.keepIn K (.ref fWhole) = true)
    (aAt : PySem.W.nsIn K mainGlobals "_law_at" = some (some (.ref fAt)))
    (lAt : K.lookup fAt = some ⟨ocAt, odAt, .func (PySem.W.fnOf "_law_at" "_law_at" (defArgs sAt) (defBody sAt) (defScope sAt) .none kVAt dcAt pmAt anAt cdAt ctAt), slAt⟩) (cAt : PySem.W.codeIn K cdAt "_law_at" = true) (kAt : PySem.W.keepIn K (.ref fAt) = true)
    (aSame : PySem.W.nsIn K mainGlobals "_law_same" = some (some (.ref fSame)))
    (lSame : K.lookup fSame = some ⟨ocSame, odSame, .func (PySem.W.fnOf "_law_same" "_law_same" (defArgs sSame) (defBody sSame) (defScope sSame) .none kVSame dcSame pmSame anSame cdSame ctSame), slSame⟩) (cSame : PySem.W.codeIn K cdSame "_law_same" = true) (kSame : PySem.W.keepIn K (.ref fSame) = true)
    (aTexts : PySem.W.nsIn K mainGlobals "_law_texts" = some (some (.ref fTexts)))
    (lTexts : K.lookup fTexts = some ⟨ocTexts, odTexts, .func (PySem.W.fnOf "_law_texts" "_law_texts" (defArgs sTexts) (defBody sTexts) (defScope sTexts) .none kVTexts dcTexts pmTexts anTexts cdTexts ctTexts), slTexts⟩) (cTexts : PySem.W.codeIn K cdTexts "_law_texts" = true) (kTexts : PySem.W.keepIn K (.ref fTexts) = true)
    (aDrawn : PySem.W.nsIn K mainGlobals "_law_drawn_row" = some (some (.ref fDrawn)))
    (lDrawn : K.lookup fDrawn = some ⟨ocDrawn, odDrawn, .func (PySem.W.fnOf "_law_drawn_row" "_law_drawn_row" (defArgs sDrawn) (defBody sDrawn) (defScope sDrawn) .none kVDrawn dcDrawn pmDrawn anDrawn cdDrawn ctDrawn), slDrawn⟩) (cDrawn : PySem.W.codeIn K cdDrawn "_law_drawn_row" = true) (kDrawn : PySem.W.keepIn K (.ref fDrawn) = true)
    (aFar : PySem.W.nsIn K mainGlobals "_law_far" = some (some (.ref fFar)))
    (lFar : K.lookup fFar = some ⟨ocFar, odFar, .func (PySem.W.fnOf "_law_far" "_law_far" (defArgs sFar) (defBody sFar) (defScope sFar) .none kVFar dcFar pmFar anFar cdFar ctFar), slFar⟩) (cFar : PySem.W.codeIn K cdFar "_law_far" = true) (kFar : PySem.W.keepIn K (.ref fFar) = true)
    (aIsRow : PySem.W.nsIn K mainGlobals "_law_is_row" = some (some (.ref fIsRow)))
    (lIsRow : K.lookup fIsRow = some ⟨ocIsRow, odIsRow, .func (PySem.W.fnOf "_law_is_row" "_law_is_row" (defArgs sIsRow) (defBody sIsRow) (defScope sIsRow) .none kVIsRow dcIsRow pmIsRow anIsRow cdIsRow ctIsRow), slIsRow⟩) (cIsRow : PySem.W.codeIn K cdIsRow "_law_is_row" = true) (kIsRow : PySem.W.keepIn K (.ref fIsRow) = true)
    (aAreRows : PySem.W.nsIn K mainGlobals "_law_are_rows" = some (some (.ref fAreRows)))
    (lAreRows : K.lookup fAreRows = some ⟨ocAreRows, odAreRows, .func (PySem.W.fnOf "_law_are_rows" "_law_are_rows" (defArgs sAreRows) (defBody sAreRows) (defScope sAreRows) .none kVAreRows dcAreRows pmAreRows anAreRows cdAreRows ctAreRows), slAreRows⟩) (cAreRows : PySem.W.codeIn K cdAreRows "_law_are_rows" = true) (kAreRows : PySem.W.keepIn K (.ref fAreRows) = true)
    (aGoodBl : PySem.W.nsIn K mainGlobals "_law_good_blocks" = some (some (.ref fGoodBl)))
    (lGoodBl : K.lookup fGoodBl = some ⟨ocGoodBl, odGoodBl, .func (PySem.W.fnOf "_law_good_blocks" "_law_good_blocks" (defArgs sGoodBl) (defBody sGoodBl) (defScope sGoodBl) .none kVGoodBl dcGoodBl pmGoodBl anGoodBl cdGoodBl ctGoodBl), slGoodBl⟩) (cGoodBl : PySem.W.codeIn K cdGoodBl "_law_good_blocks" = true) (kGoodBl : PySem.W.keepIn K (.ref fGoodBl) = true)
    (aSortBy : PySem.W.nsIn K mainGlobals "_law_sorted_by" = some (some (.ref fSortBy)))
    (lSortBy : K.lookup fSortBy = some ⟨ocSortBy, odSortBy, .func (PySem.W.fnOf "_law_sorted_by" "_law_sorted_by" (defArgs sSortBy) (defBody sSortBy) (defScope sSortBy) .none kVSortBy dcSortBy pmSortBy anSortBy cdSortBy ctSortBy), slSortBy⟩) (cSortBy : PySem.W.codeIn K cdSortBy "_law_sorted_by" = true) (kSortBy : PySem.W.keepIn K (.ref fSortBy) = true)
    (aRight : PySem.W.nsIn K mainGlobals "_law_order_right" = some (some (.ref fRight)))
    (lRight : K.lookup fRight = some ⟨ocRight, odRight, .func (PySem.W.fnOf "_law_order_right" "_law_order_right" (defArgs sRight) (defBody sRight) (defScope sRight) .none kVRight dcRight pmRight anRight cdRight ctRight), slRight⟩) (cRight : PySem.W.codeIn K cdRight "_law_order_right" = true) (kRight : PySem.W.keepIn K (.ref fRight) = true)
    (aStep : PySem.W.nsIn K mainGlobals "_law_step_by" = some (some (.ref fStep)))
    (lStep : K.lookup fStep = some ⟨ocStep, odStep, .func (PySem.W.fnOf "_law_step_by" "_law_step_by" (defArgs sStep) (defBody sStep) (defScope sStep) .none kVStep dcStep pmStep anStep cdStep ctStep), slStep⟩) (cStep : PySem.W.codeIn K cdStep "_law_step_by" = true) (kStep : PySem.W.keepIn K (.ref fStep) = true)
    (aRaised : PySem.W.nsIn K mainGlobals "_law_raised" = some (some (.ref fRaised)))
    (lRaised : K.lookup fRaised = some ⟨ocRaised, odRaised, .func (PySem.W.fnOf "_law_raised" "_law_raised" (defArgs sRaised) (defBody sRaised) (defScope sRaised) .none kVRaised dcRaised pmRaised anRaised cdRaised ctRaised), slRaised⟩) (cRaised : PySem.W.codeIn K cdRaised "_law_raised" = true) (kRaised : PySem.W.keepIn K (.ref fRaised) = true)
    (aRanked : PySem.W.nsIn K mainGlobals "_law_ranked" = some (some (.ref fRanked)))
    (lRanked : K.lookup fRanked = some ⟨ocRanked, odRanked, .func (PySem.W.fnOf "_law_ranked" "_law_ranked" (defArgs sRanked) (defBody sRanked) (defScope sRanked) .none kVRanked dcRanked pmRanked anRanked cdRanked ctRanked), slRanked⟩) (cRanked : PySem.W.codeIn K cdRanked "_law_ranked" = true) (kRanked : PySem.W.keepIn K (.ref fRanked) = true)
    (aSigned : PySem.W.nsIn K mainGlobals "_law_signed" = some (some (.ref fSigned)))
    (lSigned : K.lookup fSigned = some ⟨ocSigned, odSigned, .func (PySem.W.fnOf "_law_signed" "_law_signed" (defArgs sSigned) (defBody sSigned) (defScope sSigned) .none kVSigned dcSigned pmSigned anSigned cdSigned ctSigned), slSigned⟩) (cSigned : PySem.W.codeIn K cdSigned "_law_signed" = true) (kSigned : PySem.W.keepIn K (.ref fSigned) = true)
    (aMoved : PySem.W.nsIn K mainGlobals "_law_row_moved" = some (some (.ref fMoved)))
    (lMoved : K.lookup fMoved = some ⟨ocMoved, odMoved, .func (PySem.W.fnOf "_law_row_moved" "_law_row_moved" (defArgs sMoved) (defBody sMoved) (defScope sMoved) .none kVMoved dcMoved pmMoved anMoved cdMoved ctMoved), slMoved⟩) (cMoved : PySem.W.codeIn K cdMoved "_law_row_moved" = true) (kMoved : PySem.W.keepIn K (.ref fMoved) = true)
    (aLaw : PySem.W.nsIn K mainGlobals "law" = some (some (.ref fLaw)))
    (lLaw : K.lookup fLaw = some ⟨ocLaw, odLaw, .func (PySem.W.fnOf "law" "law" (defArgs sLaw) (defBody sLaw) (defScope sLaw) .none kVLaw dcLaw pmLaw anLaw cdLaw ctLaw), slLaw⟩) (cLaw : PySem.W.codeIn K cdLaw "law" = true) (kLaw : PySem.W.keepIn K (.ref fLaw) = true)
    (pg : PySem.W.plainGet K C Str.empty = true) (hd : PySem.W.hasDictIn K C = true) (po : PySem.W.plainOver K C = true) (sa : PySem.W.findIn K (.ref C) "__setattr__" = some (some (.builtin "object.__setattr__"))) (mk : PySem.W.makesIn K C = true) (kc : PySem.W.keepIn K (.ref C) = true)
    (nW : PySem.W.findIn K (.ref C) "word" = some none) (nB : PySem.W.findIn K (.ref C) "blocks" = some none)
    (q1 : PySem.W.nsIn K mainGlobals "RANK_WORD" = some (some (.str "rank" t1)))
    (q2 : PySem.W.nsIn K mainGlobals "TEXT_WORD" = some (some (.str "text" t2)))
    (q3 : PySem.W.nsIn K mainGlobals "MOST_IN_A_BLOCK" = some (some (.int 8 t3)))
    (q4 : PySem.W.nsIn K mainGlobals "LEAST_IN_TWO_BLOCKS" = some (some (.int 5 t4)))
    (zlen : PySem.W.nsIn K mainGlobals "len" = some none)
    (zmin : PySem.W.nsIn K mainGlobals "min" = some none)
    (zsum : PySem.W.nsIn K mainGlobals "sum" = some none)
    (zisinstance : PySem.W.nsIn K mainGlobals "isinstance" = some none)
    (zint : PySem.W.nsIn K mainGlobals "int" = some none)
    (zbool : PySem.W.nsIn K mainGlobals "bool" = some none)
    (zlist : PySem.W.nsIn K mainGlobals "list" = some none)
    (ztuple : PySem.W.nsIn K mainGlobals "tuple" = some none)
    (zstr : PySem.W.nsIn K mainGlobals "str" = some none)
    (zsorted : PySem.W.nsIn K mainGlobals "sorted" = some none)
    (zrange : PySem.W.nsIn K mainGlobals "range" = some none)
    (nb : PySem.W.nsIn K cStatics sharingNotToldKey = some none) :
    ∃ fd : FuncData, (∀ (s : Shared) (v : Value), BindsTo s fd ⟨[v], []⟩ [("_law_script", v)]) ∧ ∀ base : Heap, K.In base → base.Ns mainGlobals mg → FnOk l.prog w K mg base CX0 6 fa fd ["_law_script"] (spLaw K) := by
  have e := hfa.symm.trans (PySem.W.mg_of X G aLaw)
  cases e
  have T : Txt K mg C := ⟨⟨pg, hd, po, sa⟩, nW, nB, PySem.W.mg_of X G aC, ⟨_, PySem.W.mg_of X G q1⟩, ⟨_, PySem.W.mg_of X G q2⟩, ⟨_, PySem.W.mg_of X G q3⟩, ⟨_, PySem.W.mg_of X G q4⟩, PySem.W.mg_none_of X G zlen, PySem.W.mg_none_of X G zmin, PySem.W.mg_none_of X G zsum⟩
  have B : Bt mg := ⟨PySem.W.mg_none_of X G zlen, PySem.W.mg_none_of X G zmin, PySem.W.mg_none_of X G zisinstance, PySem.W.mg_none_of X G zint, PySem.W.mg_none_of X G zbool, PySem.W.mg_none_of X G zlist, PySem.W.mg_none_of X G ztuple, PySem.W.mg_none_of X G zstr, PySem.W.mg_none_of X G zsorted, PySem.W.mg_none_of X G zrange⟩
  have FInit := fun_mk (st := sInit) lInit cInit kInit
  have bInit := FInit.binds (ps := ["self", "word"]) fun _ _ _ _ _ _ us hl => match us, hl with | [_, _], _ => rfl
  have FTake := fun_mk (st := sTake) lTake cTake kTake
  have bTake := FTake.binds (ps := ["self", "row"]) fun _ _ _ _ _ _ us hl => match us, hl with | [_, _], _ => rfl
  have FLet := fun_mk (st := sLet) lLet cLet kLet
  have bLet := FLet.binds (ps := ["self", "row"]) fun _ _ _ _ _ _ us hl => match us, hl with | [_, _], _ => rfl
  have FRows := fun_mk (st := sRows) lRows cRows kRows
  have bRows := FRows.binds (ps := ["self"]) fun _ _ _ _ _ _ us hl => match us, hl with | [_], _ => rfl
  have FAhead := fun_mk (st := sAhead) lAhead cAhead kAhead
  have bAhead := FAhead.binds (ps := ["self", "row"]) fun _ _ _ _ _ _ us hl => match us, hl with | [_, _], _ => rfl
  have FBetw := fun_mk (st := sBetw) lBetw cBetw kBetw
  have bBetw := FBetw.binds (ps := ["self", "low", "high"]) fun _ _ _ _ _ _ us hl => match us, hl with | [_, _, _], _ => rfl
  have FBA := fun_mk (st := sBA) lBA cBA kBA
  have bBA := FBA.binds (ps := ["self", "key"]) fun _ _ _ _ _ _ us hl => match us, hl with | [_, _], _ => rfl
  have FRA := fun_mk (st := sRA) lRA cRA kRA
  have bRA := FRA.binds (ps := ["self", "block", "key"]) fun _ _ _ _ _ _ us hl => match us, hl with | [_, _, _], _ => rfl
  have FSplit := fun_mk (st := sSplit) lSplit cSplit kSplit
  have bSplit := FSplit.binds (ps := ["self", "place"]) fun _ _ _ _ _ _ us hl => match us, hl with | [_, _], _ => rfl
  have FJoin := fun_mk (st := sJoin) lJoin cJoin kJoin
  have bJoin := FJoin.binds (ps := ["self", "place"]) fun _ _ _ _ _ _ us hl => match us, hl with | [_, _], _ => rfl
  have FCW := fun_mk (st := sCW) lCW cCW kCW
  have bCW := FCW.binds (ps := ["word"]) fun _ _ _ _ _ _ us hl => match us, hl with | [_], _ => rfl
  have FLead := fun_mk (st := sLead) lLead cLead kLead
  have bLead := FLead.binds (ps := ["word", "row"]) fun _ _ _ _ _ _ us hl => match us, hl with | [_, _], _ => rfl
  have FKey := fun_mk (st := sKey) lKey cKey kKey
  have bKey := FKey.binds (ps := ["word", "row"]) fun _ _ _ _ _ _ us hl => match us, hl with | [_, _], _ => rfl
  have FWith := fun_mk (st := sWith) lWith cWith kWith
  have bWith := FWith.binds (ps := ["word", "rows"]) fun _ _ _ _ _ _ us hl => match us, hl with | [_, _], _ => rfl
  have FWhole := fun_mk (st := sWhole) lWhole cWhole kWhole
  have bWhole := FWhole.binds (ps := ["_law_found"]) fun _ _ _ _ _ _ us hl => match us, hl with | [_], _ => rfl
  have FAt := fun_mk (st := sAt) lAt cAt kAt
  have bAt := FAt.binds (ps := ["_law_script", "_law_k"]) fun _ _ _ _ _ _ us hl => match us, hl with | [_, _], _ => rfl
  have FSame := fun_mk (st := sSame) lSame cSame kSame
  have bSame := FSame.binds (ps := ["_law_found", "_law_due"]) fun _ _ _ _ _ _ us hl => match us, hl with | [_, _], _ => rfl
  have FTexts := fun_mk (st := sTexts) lTexts cTexts kTexts
  have bTexts := FTexts.binds (ps := []) fun _ _ _ _ _ _ us hl => match us, hl with | [], _ => rfl
  have FDrawn := fun_mk (st := sDrawn) lDrawn cDrawn kDrawn
  have bDrawn := FDrawn.binds (ps := ["_law_number", "_law_cell"]) fun _ _ _ _ _ _ us hl => match us, hl with | [_, _], _ => rfl
  have FFar := fun_mk (st := sFar) lFar cFar kFar
  have bFar := FFar.binds (ps := ["_law_number"]) fun _ _ _ _ _ _ us hl => match us, hl with | [_], _ => rfl
  have FIsRow := fun_mk (st := sIsRow) lIsRow cIsRow kIsRow
  have bIsRow := FIsRow.binds (ps := ["_law_found"]) fun _ _ _ _ _ _ us hl => match us, hl with | [_], _ => rfl
  have FAreRows := fun_mk (st := sAreRows) lAreRows cAreRows kAreRows
  have bAreRows := FAreRows.binds (ps := ["_law_found"]) fun _ _ _ _ _ _ us hl => match us, hl with | [_], _ => rfl
  have FGoodBl := fun_mk (st := sGoodBl) lGoodBl cGoodBl kGoodBl
  have bGoodBl := FGoodBl.binds (ps := ["_law_blocks", "_law_due"]) fun _ _ _ _ _ _ us hl => match us, hl with | [_, _], _ => rfl
  have FSortBy := fun_mk (st := sSortBy) lSortBy cSortBy kSortBy
  have bSortBy := FSortBy.binds (ps := ["_law_rows", "_law_spot"]) fun _ _ _ _ _ _ us hl => match us, hl with | [_, _], _ => rfl
  have FRight := fun_mk (st := sRight) lRight cRight kRight
  have bRight := FRight.binds (ps := ["_law_order", "_law_there", "_law_spot", "_law_row", "_law_word"]) fun _ _ _ _ _ _ us hl => match us, hl with | [_, _, _, _, _], _ => rfl
  have FStep := fun_mk (st := sStep) lStep cStep kStep
  have bStep := FStep.binds (ps := ["_law_seed"]) fun _ _ _ _ _ _ us hl => match us, hl with | [_], _ => rfl
  have FRaised := fun_mk (st := sRaised) lRaised cRaised kRaised
  have bRaised := FRaised.binds (ps := ["_law_number", "_law_seed"]) fun _ _ _ _ _ _ us hl => match us, hl with | [_, _], _ => rfl
  have FRanked := fun_mk (st := sRanked) lRanked cRanked kRanked
  have bRanked := FRanked.binds (ps := ["_law_rank", "_law_seed"]) fun _ _ _ _ _ _ us hl => match us, hl with | [_, _], _ => rfl
  have FSigned := fun_mk (st := sSigned) lSigned cSigned kSigned
  have bSigned := FSigned.binds (ps := ["_law_letters", "_law_seed"]) fun _ _ _ _ _ _ us hl => match us, hl with | [_, _], _ => rfl
  have FMoved := fun_mk (st := sMoved) lMoved cMoved kMoved
  have bMoved := FMoved.binds (ps := ["_law_row", "_law_seed"]) fun _ _ _ _ _ _ us hl => match us, hl with | [_, _], _ => rfl
  have FLaw := fun_mk (st := sLaw) lLaw cLaw kLaw
  have mTake : Mf K C "take_in" fTake _ ["self", "row"] := ⟨⟨aTake, iTake, kTake⟩, bTake⟩
  have mLet : Mf K C "let_out" fLet _ ["self", "row"] := ⟨⟨aLet, iLet, kLet⟩, bLet⟩
  have mRows : Mf K C "rows" fRows _ ["self"] := ⟨⟨aRows, iRows, kRows⟩, bRows⟩
  have mAhead : Mf K C "ahead_of" fAhead _ ["self", "row"] := ⟨⟨aAhead, iAhead, kAhead⟩, bAhead⟩
  have mBetw : Mf K C "between" fBetw _ ["self", "low", "high"] := ⟨⟨aBetw, iBetw, kBetw⟩, bBetw⟩
  have mBA : Mf K C "blocks_ahead" fBA _ ["self", "key"] := ⟨⟨aBA, iBA, kBA⟩, bBA⟩
  have mRA : Mf K C "rows_ahead" fRA _ ["self", "block", "key"] := ⟨⟨aRA, iRA, kRA⟩, bRA⟩
  have mSplit : Mf K C "split_block" fSplit _ ["self", "place"] := ⟨⟨aSplit, iSplit, kSplit⟩, bSplit⟩
  have mJoin : Mf K C "join_if_few" fJoin _ ["self", "place"] := ⟨⟨aJoin, iJoin, kJoin⟩, bJoin⟩
  have gCW : Gf K mg "check_word" fCW _ ["word"] := ⟨PySem.W.mg_of X G aCW, kCW, bCW⟩
  have gLead : Gf K mg "lead_of" fLead _ ["word", "row"] := ⟨PySem.W.mg_of X G aLead, kLead, bLead⟩
  have gKey : Gf K mg "key_of" fKey _ ["word", "row"] := ⟨PySem.W.mg_of X G aKey, kKey, bKey⟩
  have gWith : Gf K mg "order_with" fWith _ ["word", "rows"] := ⟨PySem.W.mg_of X G aWith, kWith, bWith⟩
  have gWhole : Gf K mg "_law_whole" fWhole _ ["_law_found"] := ⟨PySem.W.mg_of X G aWhole, kWhole, bWhole⟩
  have gAt : Gf K mg "_law_at" fAt _ ["_law_script", "_law_k"] := ⟨PySem.W.mg_of X G aAt, kAt, bAt⟩
  have gSame : Gf K mg "_law_same" fSame _ ["_law_found", "_law_due"] := ⟨PySem.W.mg_of X G aSame, kSame, bSame⟩
  have gTexts : Gf K mg "_law_texts" fTexts _ [] := ⟨PySem.W.mg_of X G aTexts, kTexts, bTexts⟩
  have gDrawn : Gf K mg "_law_drawn_row" fDrawn _ ["_law_number", "_law_cell"] := ⟨PySem.W.mg_of X G aDrawn, kDrawn, bDrawn⟩
  have gFar : Gf K mg "_law_far" fFar _ ["_law_number"] := ⟨PySem.W.mg_of X G aFar, kFar, bFar⟩
  have gIsRow : Gf K mg "_law_is_row" fIsRow _ ["_law_found"] := ⟨PySem.W.mg_of X G aIsRow, kIsRow, bIsRow⟩
  have gAreRows : Gf K mg "_law_are_rows" fAreRows _ ["_law_found"] := ⟨PySem.W.mg_of X G aAreRows, kAreRows, bAreRows⟩
  have gGoodBl : Gf K mg "_law_good_blocks" fGoodBl _ ["_law_blocks", "_law_due"] := ⟨PySem.W.mg_of X G aGoodBl, kGoodBl, bGoodBl⟩
  have gSortBy : Gf K mg "_law_sorted_by" fSortBy _ ["_law_rows", "_law_spot"] := ⟨PySem.W.mg_of X G aSortBy, kSortBy, bSortBy⟩
  have gRight : Gf K mg "_law_order_right" fRight _ ["_law_order", "_law_there", "_law_spot", "_law_row", "_law_word"] := ⟨PySem.W.mg_of X G aRight, kRight, bRight⟩
  have gStep : Gf K mg "_law_step_by" fStep _ ["_law_seed"] := ⟨PySem.W.mg_of X G aStep, kStep, bStep⟩
  have gRaised : Gf K mg "_law_raised" fRaised _ ["_law_number", "_law_seed"] := ⟨PySem.W.mg_of X G aRaised, kRaised, bRaised⟩
  have gRanked : Gf K mg "_law_ranked" fRanked _ ["_law_rank", "_law_seed"] := ⟨PySem.W.mg_of X G aRanked, kRanked, bRanked⟩
  have gSigned : Gf K mg "_law_signed" fSigned _ ["_law_letters", "_law_seed"] := ⟨PySem.W.mg_of X G aSigned, kSigned, bSigned⟩
  have gMoved : Gf K mg "_law_row_moved" fMoved _ ["_law_row", "_law_seed"] := ⟨PySem.W.mg_of X G aMoved, kMoved, bMoved⟩
  have MM : Mk K C fInit := ⟨mk, aInit, iInit, kc⟩
  refine ⟨PySem.W.fnOf "law" "law" (defArgs sLaw) (defBody sLaw) (defScope sLaw) .none kVLaw dcLaw pmLaw anLaw cdLaw ctLaw, fun s v => .of_eq rfl, fun base _ _ => ?_⟩
  have KCW : FnOk l.prog w K mg base CX0 1 fCW _ ["word"] spCW := ok_cw FCW T
  have KLead : FnOk l.prog w K mg base CX0 1 fLead _ ["word", "row"] spLead := ok_lead FLead T
  have KKey : FnOk l.prog w K mg base CX0 2 fKey _ ["word", "row"] spKey := ok_key FKey T gLead KLead
  have KRA : FnOk l.prog w K mg base CX0 3 fRA _ ["self", "block", "key"] (spRA C) := ok_ra FRA T gKey KKey
  have KBA : FnOk l.prog w K mg base CX0 3 fBA _ ["self", "key"] (spBA C) := ok_ba FBA T gKey KKey
  have KSplit : FnOk l.prog w K mg base CX0 1 fSplit _ ["self", "place"] (spSplit C) := ok_split FSplit T
  have KTake : FnOk l.prog w K mg base CX0 4 fTake _ ["self", "row"] (spTake C) := ok_take FTake T gKey KKey mBA KBA mRA KRA mSplit KSplit
  have KJoin : FnOk l.prog w K mg base CX0 1 fJoin _ ["self", "place"] (spJoin C) := ok_join FJoin T
  have KLet : FnOk l.prog w K mg base CX0 4 fLet _ ["self", "row"] (spLet C) := ok_let FLet T gKey KKey mBA KBA mJoin KJoin
  have KRows : FnOk l.prog w K mg base CX0 1 fRows _ ["self"] (spRows C) := ok_rows FRows T
  have KAhead : FnOk l.prog w K mg base CX0 4 fAhead _ ["self", "row"] (spAhead C) := ok_ahead FAhead T gKey KKey mBA KBA mRA KRA
  have KBetw : FnOk l.prog w K mg base CX0 4 fBetw _ ["self", "low", "high"] (spBetw C) := ok_betw FBetw T gLead KLead mBA KBA
  have KInit : FnOk l.prog w K mg base CX0 2 fInit _ ["self", "word"] (spInit C) := ok_init FInit T gCW KCW
  have KWith : FnOk l.prog w K mg base CX0 5 fWith _ ["word", "rows"] (spWith C) := ok_with FWith T MM bInit KInit mTake KTake
  have KWhole : FnOk l.prog w K mg base CX0 1 fWhole _ ["_law_found"] spWhole := ok_whole FWhole B
  have KAt : FnOk l.prog w K mg base CX0 1 fAt _ ["_law_script", "_law_k"] (spAt K) := ok_at FAt B
  have KSame : FnOk l.prog w K mg base CX0 2 fSame _ ["_law_found", "_law_due"] spSame := ok_same FSame B gWhole KWhole
  have KIsRow : FnOk l.prog w K mg base CX0 2 fIsRow _ ["_law_found"] spIsRow := ok_isrow FIsRow B gWhole KWhole
  have KAreRows : FnOk l.prog w K mg base CX0 3 fAreRows _ ["_law_found"] spAreRows := ok_arerows FAreRows B gIsRow KIsRow
  have KGoodBl : FnOk l.prog w K mg base CX0 4 fGoodBl _ ["_law_blocks", "_law_due"] spGoodBl := ok_goodbl FGoodBl B gAreRows KAreRows gSame KSame
  have KSortBy : FnOk l.prog w K mg base CX0 1 fSortBy _ ["_law_rows", "_law_spot"] spSortBy := ok_sortby FSortBy B
  have KRight : FnOk l.prog w K mg base CX0 5 fRight _ ["_law_order", "_law_there", "_law_spot", "_law_row", "_law_word"] (spRight C) := ok_right FRight T B gSortBy KSortBy gSame KSame gGoodBl KGoodBl gWhole KWhole mRows KRows mAhead KAhead mBetw KBetw
  have KTexts : FnOk l.prog w K mg base CX0 1 fTexts _ [] spTexts := ok_texts FTexts
  have KDrawn : FnOk l.prog w K mg base CX0 2 fDrawn _ ["_law_number", "_law_cell"] spDrawn := ok_drawn FDrawn gTexts KTexts
  have KFar : FnOk l.prog w K mg base CX0 1 fFar _ ["_law_number"] spFar := ok_far FFar B
  have KStep : FnOk l.prog w K mg base CX0 1 fStep _ ["_law_seed"] spStep := ok_step FStep B
  have KRaised : FnOk l.prog w K mg base CX0 2 fRaised _ ["_law_number", "_law_seed"] spRaised := ok_raised FRaised B gStep KStep
  have KRanked : FnOk l.prog w K mg base CX0 2 fRanked _ ["_law_rank", "_law_seed"] spRanked := ok_ranked FRanked B gStep KStep
  have KSigned : FnOk l.prog w K mg base CX0 1 fSigned _ ["_law_letters", "_law_seed"] spSigned := ok_signed FSigned B nb
  have KMoved : FnOk l.prog w K mg base CX0 3 fMoved _ ["_law_row", "_law_seed"] spMoved := ok_moved FMoved gRaised KRaised gRanked KRanked gSigned KSigned
  exact ok_law FLaw T B MM bInit KInit mTake KTake mLet KLet mRows KRows mBetw KBetw gAt KAt gDrawn KDrawn gFar KFar gMoved KMoved gRight KRight gSortBy KSortBy gSame KSame gWith KWith
theorem walk {l : PySem.W.OpenLaw} {q : Program} {loose : List Str} {XP : (Str → Option Value) → Heap → Prop} {YP : World → Heap → Prop} {d : DefRec} {K : Params → PySem.W.Frag} (hn : l.most = some 63) (hdf : d.params.defaults = [])
    (hY : ∀ (w : World) (h : Heap), YP w h → (K w.params).In h)
    (F : ∀ (w : World) (mg : Str → Option Value) (fa : Addr) (h : Heap), (K w.params).In h → h.Ns mainGlobals mg → mg d.name = some (.ref fa) →
      ∃ fd : FuncData, (∀ (s : Shared) (u : Value), BindsTo s fd ⟨[u], []⟩ [("_law_script", u)]) ∧ ∀ base : Heap, (K w.params).In base → base.Ns mainGlobals mg → FnOk l.prog w (K w.params) mg base CX0 6 fa fd ["_law_script"] (spLaw (K w.params))) :
    PySem.W.WalkO q loose XP YP l.row.toRowW d [] (fun f vs => PySem.call f vs) :=
  L2.walk_of (n := 63) (k := 6) (x := "_law_script") (CX := fun _ => CX0) (sp := fun w => spLaw (K w.params)) hn (by decide) hdf ⟨rfl, by decide, by decide⟩ hY F (fun _ _ a ns hl _ hS => ⟨a, ns, rfl, hS, hl, fun _ => rfl⟩) fun _ _ _ _ _ z => z
end K1

open PySem PySem.W PyProof.Rows
set_option maxRecDepth 100000 in
set_option maxHeartbeats 0 in
theorem PySem.Challenge.cw_twoorders_k01_an_order_holds : PySem.Challenge.rw_twoorders_k01_an_order.Holds := by
  w_on; o_law; k_head; (case hw => w_witness2)
  k_fill
  refine K1.walk (l := PySem.Challenge.rw_twoorders_k01_an_order) rfl rfl (fun w h Y => PySem.W.kIn_of Y) ?F
  case F =>
    intro w mg fa h KX G hmg
    refine' K1.all_mk KX G hmg ?aC ?aInit ?iInit ?lInit ?cInit ?kInit ?aTake ?iTake ?lTake ?cTake ?kTake ?aLet ?iLet ?lLet ?cLet ?kLet ?aRows ?iRows ?lRows ?cRows ?kRows ?aAhead ?iAhead ?lAhead ?cAhead ?kAhead ?aBetw ?iBetw ?lBetw ?cBetw ?kBetw ?aBA ?iBA ?lBA ?cBA ?kBA ?aRA ?iRA ?lRA ?cRA ?kRA ?aSplit ?iSplit ?lSplit ?cSplit ?kSplit ?aJoin ?iJoin ?lJoin ?cJoin ?kJoin ?aCW ?lCW ?cCW ?kCW ?aLead ?lLead ?cLead ?kLead ?aKey ?lKey ?cKey ?kKey ?aWith ?lWith ?cWith ?kWith ?aWhole ?lWhole ?cWhole ?kWhole ?aAt ?lAt ?cAt ?kAt ?aSame ?lSame ?cSame ?kSame ?aTexts ?lTexts ?cTexts ?kTexts ?aDrawn ?lDrawn ?cDrawn ?kDrawn ?aFar ?lFar ?cFar ?kFar ?aIsRow ?lIsRow ?cIsRow ?kIsRow ?aAreRows ?lAreRows ?cAreRows ?kAreRows ?aGoodBl ?lGoodBl ?cGoodBl ?kGoodBl ?aSortBy ?lSortBy ?cSortBy ?kSortBy ?aRight ?lRight ?cRight ?kRight ?aStep ?lStep ?cStep ?kStep ?aRaised ?lRaised ?cRaised ?kRaised ?aRanked ?lRanked ?cRanked ?kRanked ?aSigned ?lSigned ?cSigned ?kSigned ?aMoved ?lMoved ?cMoved ?kMoved ?aLaw ?lLaw ?cLaw ?kLaw ?pg ?hd ?po ?sa ?mk ?kc ?nW ?nB ?q1 ?q2 ?q3 ?q4 ?zlen ?zmin ?zsum ?zisinstance ?zint ?zbool ?zlist ?ztuple ?zstr ?zsorted ?zrange ?nb
    (case aC => k_is); (case aInit => k_is); (case iInit => k_is); (case lInit => k_is); (case cInit => k_is); (case kInit => k_is)
    (case aTake => k_is); (case iTake => k_is); (case lTake => k_is); (case cTake => k_is); (case kTake => k_is); (case aLet => k_is)
    (case iLet => k_is); (case lLet => k_is); (case cLet => k_is); (case kLet => k_is); (case aRows => k_is); (case iRows => k_is)
    (case lRows => k_is); (case cRows => k_is); (case kRows => k_is); (case aAhead => k_is); (case iAhead => k_is); (case lAhead => k_is)
    (case cAhead => k_is); (case kAhead => k_is); (case aBetw => k_is); (case iBetw => k_is); (case lBetw => k_is); (case cBetw => k_is)
    (case kBetw => k_is); (case aBA => k_is); (case iBA => k_is); (case lBA => k_is); (case cBA => k_is); (case kBA => k_is)
    (case aRA => k_is); (case iRA => k_is); (case lRA => k_is); (case cRA => k_is); (case kRA => k_is); (case aSplit => k_is)
    (case iSplit => k_is); (case lSplit => k_is); (case cSplit => k_is); (case kSplit => k_is); (case aJoin => k_is); (case iJoin => k_is)
    (case lJoin => k_is); (case cJoin => k_is); (case kJoin => k_is); (case aCW => k_is); (case lCW => k_is); (case cCW => k_is)
    (case kCW => k_is); (case aLead => k_is); (case lLead => k_is); (case cLead => k_is); (case kLead => k_is); (case aKey => k_is)
    (case lKey => k_is); (case cKey => k_is); (case kKey => k_is); (case aWith => k_is); (case lWith => k_is); (case cWith => k_is)
    (case kWith => k_is); (case aWhole => k_is); (case lWhole => k_is); (case cWhole => k_is); (case kWhole => k_is); (case aAt => k_is)
    (case lAt => k_is); (case cAt => k_is); (case kAt => k_is); (case aSame => k_is); (case lSame => k_is); (case cSame => k_is)
    (case kSame => k_is); (case aTexts => k_is); (case lTexts => k_is); (case cTexts => k_is); (case kTexts => k_is); (case aDrawn => k_is)
    (case lDrawn => k_is); (case cDrawn => k_is); (case kDrawn => k_is); (case aFar => k_is); (case lFar => k_is); (case cFar => k_is)
    (case kFar => k_is); (case aIsRow => k_is); (case lIsRow => k_is); (case cIsRow => k_is); (case kIsRow => k_is); (case aAreRows => k_is)
    (case lAreRows => k_is); (case cAreRows => k_is); (case kAreRows => k_is); (case aGoodBl => k_is); (case lGoodBl => k_is); (case cGoodBl => k_is)
    (case kGoodBl => k_is); (case aSortBy => k_is); (case lSortBy => k_is); (case cSortBy => k_is); (case kSortBy => k_is); (case aRight => k_is)
    (case lRight => k_is); (case cRight => k_is); (case kRight => k_is); (case aStep => k_is); (case lStep => k_is); (case cStep => k_is)
    (case kStep => k_is); (case aRaised => k_is); (case lRaised => k_is); (case cRaised => k_is); (case kRaised => k_is); (case aRanked => k_is)
    (case lRanked => k_is); (case cRanked => k_is); (case kRanked => k_is); (case aSigned => k_is); (case lSigned => k_is); (case cSigned => k_is)
    (case kSigned => k_is); (case aMoved => k_is); (case lMoved => k_is); (case cMoved => k_is); (case kMoved => k_is); (case aLaw => k_is)
    (case lLaw => k_is); (case cLaw => k_is); (case kLaw => k_is); (case pg => k_is); (case hd => k_is); (case po => k_is)
    (case sa => k_is); (case mk => k_is); (case kc => k_is); (case nW => k_is); (case nB => k_is); (case q1 => k_is)
    (case q2 => k_is); (case q3 => k_is); (case q4 => k_is); (case zlen => k_is); (case zmin => k_is); (case zsum => k_is)
    (case zisinstance => k_is); (case zint => k_is); (case zbool => k_is); (case zlist => k_is); (case ztuple => k_is); (case zstr => k_is)
    (case zsorted => k_is); (case zrange => k_is); (case nb => k_is)
#print axioms PySem.Challenge.cw_twoorders_k01_an_order_holds


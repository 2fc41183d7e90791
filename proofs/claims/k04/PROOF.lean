import PyProof.Rows.All
import Wide.All
import OpenK.AllK
import Wide.FinOn
import Lean
import PyProof.EqAt
import PyProof.EqKinds
import PyProof.TupleCall
import PyProof.NeKinds
import PySem.Challenge.RW_waysaid_k04_some_again
set_option Elab.async false
set_option linter.all false
set_option maxRecDepth 100000
/-! THE HAND LAYER, for ints, bools, texts, own classes, LISTS and tuples (index, slices, in, append, pop ..), calls, loops. Paste it whole ahead of your own text; what your proof does not reach may be deleted. -/
namespace L2
open PySem PySem.Spec PyProof.Rows

/-- a key: an int or a str -/
abbrev Key := Sum Int Str
def keyIs : Key → Value → Bool
  | .inl k, v => Value.isInt k v
  | .inr x, v => Value.isStrOf x v
def keyH (w : World) : Key → Int
  | .inl k => hashInt k
  | .inr x => hashStr w x
theorem keyIs_shape : ∀ {k : Key} {v : Value}, keyIs k v = true → (∃ i t, k = Sum.inl i ∧ v = Value.int i t) ∨ (∃ x t, k = Sum.inr x ∧ v = Value.str x t)
  | .inl i, v, h => by
    obtain ⟨t, e⟩ := Value.isInt_shape (k := i) (v := v) h
    exact .inl ⟨i, t, rfl, e⟩
  | .inr x, v, h => by
    obtain ⟨t, e⟩ := Value.isStrOf_shape (x := x) (v := v) h
    exact .inr ⟨x, t, rfl, e⟩
theorem keyIs_int (i : Int) (t : Tok) : keyIs (.inl i) (.int i t) = true := by simp [keyIs, Value.isInt]
theorem keyIs_str (x : Str) (t : Tok) : keyIs (.inr x) (.str x t) = true := by simp [keyIs, Value.isStrOf]
theorem key_ll (a b : Int) : decide ((Sum.inl a : Key) = Sum.inl b) = (a == b) := by
  by_cases e : a = b
  · subst e; simp
  · have h : ¬ (Sum.inl a : Key) = Sum.inl b := fun q => e (Sum.inl.inj q)
    rw [decide_eq_false h]
    exact (beq_eq_false_iff_ne.mpr e).symm
theorem key_rr (a b : Str) : decide ((Sum.inr a : Key) = Sum.inr b) = decide (a = b) := by
  by_cases e : a = b
  · subst e; simp
  · have h : ¬ (Sum.inr a : Key) = Sum.inr b := fun q => e (Sum.inr.inj q)
    rw [decide_eq_false h, decide_eq_false e]
theorem key_lr (a : Int) (b : Str) : decide ((Sum.inl a : Key) = Sum.inr b) = false := decide_eq_false (fun q => nomatch q)
theorem key_rl (a : Str) (b : Int) : decide ((Sum.inr a : Key) = Sum.inl b) = false := decide_eq_false (fun q => nomatch q)

def mixKind (prog : Program) (w : World) : PySem.KeyKind prog w Key where
  is := keyIs
  hash := keyH w
  inj := fun v a b ha hb => by
    rcases keyIs_shape ha with ⟨i, t, rfl, rfl⟩ | ⟨x, t, rfl, rfl⟩
    · rcases keyIs_shape hb with ⟨j, u, rfl, e⟩ | ⟨y, u, rfl, e⟩
      · injection e with e1 _; rw [e1]
      · exact nomatch e
    · rcases keyIs_shape hb with ⟨j, u, rfl, e⟩ | ⟨y, u, rfl, e⟩
      · exact nomatch e
      · injection e with e1 _; rw [e1]
  byValue := fun k v h => by
    rcases keyIs_shape h with ⟨i, t, rfl, rfl⟩ | ⟨x, t, rfl, rfl⟩ <;> rfl
  pyHash := fun hv h => by
    rcases keyIs_shape hv with ⟨i, t, rfl, rfl⟩ | ⟨x, t, rfl, rfl⟩
    · exact wpAny_pyHash_int h
    · exact wpAny_pyHash_str h
  eqBool := fun hu hv h => by
    rcases keyIs_shape hu with ⟨i, t, rfl, rfl⟩ | ⟨x, t, rfl, rfl⟩
    · rcases keyIs_shape hv with ⟨j, u, rfl, rfl⟩ | ⟨y, u, rfl, rfl⟩
      · rw [key_ll] at h; exact wpAny_eqBool_int h
      · rw [key_lr] at h; exact SeqAt.EqAt.int_str i t y u _ _ _ _ h
    · rcases keyIs_shape hv with ⟨j, u, rfl, rfl⟩ | ⟨y, u, rfl, rfl⟩
      · rw [key_rl] at h; exact SeqAt.EqAt.str_int x t j u _ _ _ _ h
      · rw [key_rr] at h; exact wpAny_eqBool_str h
  «strs» := fun k x t v h => by
    rcases keyIs_shape h with ⟨i, u, rfl, e⟩ | ⟨y, u, rfl, e⟩
    · exact nomatch e
    · injection e with e1 _
      subst e1
      cases v <;> rfl

theorem mixKind_is (prog : Program) (w : World) (k : Key) (v : Value) : (mixKind prog w).is k v = keyIs k v := rfl
theorem mixKind_int (prog : Program) (w : World) (i : Int) (t : Tok) : (mixKind prog w).is (.inl i) (.int i t) = true := keyIs_int i t
theorem mixKind_str (prog : Program) (w : World) (x : Str) (t : Tok) : (mixKind prog w).is (.inr x) (.str x t) = true := keyIs_str x t
end L2

namespace L2
open PySem PySem.Spec PyProof.Rows

/-- a value, without the heap -/
inductive V where
  | non | bl (b : Bool) | int (i : Int) | str (x : Str) | byt (b : Array UInt8) | flt (b : UInt64) | ref (a : Addr) | ty (n : String)
  deriving DecidableEq

def RelV : V → Value → Prop
  | .non, u => u = Value.none
  | .bl b, u => u = Value.bool b
  | .int i, u => ∃ t, u = Value.int i t
  | .str x, u => ∃ t, u = Value.str x t
  | .byt b, u => ∃ t, u = Value.bytes b t
  | .flt b, u => ∃ t, u = Value.float b t
  | .ref a, u => u = Value.ref a
  | .ty n, u => u = Value.type n

abbrev Vals : List V → List Value → Prop := Paired RelV
theorem Vals.length {xs : List V} {us : List Value} (r : Vals xs us) : xs.length = us.length := Paired.length r
theorem Vals.get : ∀ {xs : List V} {us : List Value} {i : Nat} {x : V}, Vals xs us → xs[i]? = some x → ∃ u, us[i]? = some u ∧ RelV x u
  | _, _, _, _, .nil, e => by simp at e
  | _, _, 0, _, .cons r _, e => by simp at e; subst e; exact ⟨_, rfl, r⟩
  | _, _, i + 1, x, .cons _ t, e => by
    obtain ⟨u, h1, h2⟩ := Vals.get (i := i) (x := x) t (by simpa using e)
    exact ⟨u, by simpa using h1, h2⟩
theorem Vals.set {x : V} {u : Value} (r : RelV x u) : ∀ {xs : List V} {us : List Value} (i : Nat), Vals xs us → Vals (xs.set i x) (us.set i u)
  | _, _, _, .nil => .nil
  | _, _, 0, .cons _ t => .cons r t
  | _, _, i + 1, .cons q t => .cons q (Vals.set r i t)
theorem Vals.append : ∀ {xs ys : List V} {us ws : List Value}, Vals xs us → Vals ys ws → Vals (xs ++ ys) (us ++ ws)
  | _, _, _, _, .nil, s => s
  | _, _, _, _, .cons r t, s => .cons r (Vals.append t s)
theorem Vals.take : ∀ {xs : List V} {us : List Value} (n : Nat), Vals xs us → Vals (xs.take n) (us.take n)
  | _, _, 0, _ => .nil
  | _, _, _ + 1, .nil => .nil
  | _, _, n + 1, .cons r t => .cons r (Vals.take n t)
theorem Vals.drop : ∀ {xs : List V} {us : List Value} (n : Nat), Vals xs us → Vals (xs.drop n) (us.drop n)
  | _, _, 0, r => r
  | _, _, _ + 1, .nil => .nil
  | _, _, n + 1, .cons _ t => Vals.drop n t
theorem Vals.none_of : ∀ {xs : List V} {us : List Value} {i : Nat}, Vals xs us → xs[i]? = none → us[i]? = none := fun {xs us i} r e => by
  have h1 := r.length
  have h2 : xs.length ≤ i := List.getElem?_eq_none_iff.mp e
  exact List.getElem?_eq_none_iff.mpr (by omega)

def RelO : Option V → Option Value → Prop
  | some v, some u => RelV v u
  | none, none => True
  | _, _ => False
def KV {κ : Type} : List (κ × V) → List (κ × Value) → Prop := Paired fun (p : κ × V) (q : κ × Value) => p.1 = q.1 ∧ RelV p.2 q.2

/-- a key of a dict (00_mix): an int or a text -/
def kV : Key → V
  | .inl i => .int i
  | .inr x => .str x

/-- what stands at a tracked address -/
inductive HO where
  /-- a list -/
  | lst (xs : List V)
  /-- a tuple (never changes) -/
  | tup (xs : List V)
  /-- a dict whose keys are ints and texts; one whose keys are tuples of ints and texts (the empty one is both) -/
  | dK (kvs : List (Key × V)) | dT (kvs : List (List Key × V))
  /-- a set of ints: its members, its size -/
  | set (S : Int → Bool) (n : Nat)
  /-- an instance of the class at C, its dict at dx, its attributes -/
  | ins (C dx : Addr) (fs : List (Str × V))
  /-- the dict of the instance at x -/
  | own (x : Addr)
  /-- the dict of an exception -/
  | xd (fs : List (Str × V))
  /-- a bound method, f of x -/
  | met (f x : Addr)
  /-- a range object lo, lo + 1, .. below hi -/
  | rng (lo hi : Int)
  /-- a thing that is known to the object (the script; a dict while a loop walks it): read, never written while it is so -/
  | frz (o : Obj) (u : HO)
  /-- a code object's table -/
  | tbl (ps : Array Value)
  /-- any other thing, by what is true of its one object (a def of one's own: SetO a S n := HO.ext fun h => ..) -/
  | ext (φ : Heap → Prop)

abbrev Hp := Addr → Option HO
def upd (H : Hp) (a : Addr) (o : HO) : Hp := fun b => if b = a then some o else H b
theorem upd_same {H : Hp} {a : Addr} {o : HO} : upd H a o a = some o := by unfold upd; rw [if_pos rfl]
theorem upd_ne {H : Hp} {a b : Addr} {o : HO} (h : b ≠ a) : upd H a o b = H b := by unfold upd; rw [if_neg h]
theorem upd_upd {H : Hp} {a : Addr} {o u : HO} : upd (upd H a o) a u = upd H a u := by
  funext b; unfold upd; split <;> rfl
/-- two objects of different content stand apart -/
theorem ne_of {H : Hp} {a b : Addr} {o u : HO} (h : H a = some o) (h' : H b = some u) (d : o ≠ u) : a ≠ b := by
  intro e; subst e; rw [h] at h'; exact d (Option.some.inj h')
theorem ne_of_none {H : Hp} {a b : Addr} {o : HO} (h : H a = some o) (h' : H b = none) : a ≠ b := by
  intro e; subst e; rw [h] at h'; cases h'

section
variable (P : Program) (w : World)
def ObjOk (H : Hp) (h : Heap) (a : Addr) : HO → Prop
  | .lst xs => xs.length ≤ sizeLine ∧ ∃ (its : List Value) (n : Nat), Vals xs its ∧ h.get? a = some { cls := .type "list", data := .seq its.toArray n }
  | .tup xs => xs.length ≤ sizeLine ∧ ∃ its : List Value, Vals xs its ∧ IsTup h a its.toArray
  | .dK kvs => kvs.length ≤ sizeLine ∧ (a == sysModules) = false ∧ ∃ vs, KV kvs vs ∧ h.DictOf (mixKind P w) a vs
  | .dT kvs => kvs.length ≤ sizeLine ∧ (a == sysModules) = false ∧ ∃ xs : List (List Key × Addr × Value),
      Paired (fun (p : List Key × V) (q : List Key × Addr × Value) => p.1 = q.1 ∧ H q.2.1 = some (.tup (p.1.map kV)) ∧ RelV p.2 q.2.2) kvs xs ∧
      ∃ o es ep, h.get? a = some o ∧ o.ExactDict ∧ o.data = .dict es ep ∧ es.toList = xs.map (entryOfKey (tupleKind (mixKind P w))) ∧ (xs.map (·.1)).Nodup
  | .set S n => h.SetOf (intKind P w) a S n
  | .ins C dx fs => H dx = some (.own a) ∧ fs.length ≤ 1000 ∧ dx ≠ a ∧ h.get? a = some (PySem.W.instObj C dx) ∧
      ∃ mA, h.Ns1 dx mA ∧ (∀ f, RelO (fs.lookup f) (mA f)) ∧ PySem.Within mA (fs.map (·.1))
  | .own _ => ∃ o, h.get? a = some o
  | .xd fs => ∃ mA, h.Ns1 a mA ∧ ∀ f, RelO (fs.lookup f) (mA f)
  | .rng lo hi => ∃ t u v, h.get? a = some { cls := .type "range", data := .fields #[.int lo t, .int hi u, .int 1 v] }
  | .frz o u => h.get? a = some o ∧ ObjOk H h a u
  | .tbl ps => h.get? a = some { cls := .none, data := .fields ps }
  | .met f x => h.get? a = some (PySem.W.methodObj (.ref f) (.ref x))
  | .ext φ => φ h ∧ (∃ o, h.get? a = some o) ∧ ∀ h1 h2 : Heap, φ h1 → (∀ o, h1.get? a = some o → h2.get? a = some o) → φ h2
/-- the abstract heap is held -/
def HOk (H : Hp) (h : Heap) : Prop := ∀ a o, H a = some o → ObjOk P w H h a o
end

section
variable {P : Program} {w : World} {H H' : Hp} {h h' : Heap} {a : Addr} {o : HO}
theorem ObjOk.lt (x : ObjOk P w H h a o) : a < h.objs.size := by
  cases o with
  | lst xs => obtain ⟨_, _, _, _, e⟩ := x; exact Heap.lt_size e
  | tup xs => obtain ⟨_, _, _, p⟩ := x; exact p.lt
  | dK kvs => obtain ⟨_, _, _, _, o, _, _, e, _⟩ := x; exact Heap.lt_size e
  | dT kvs => obtain ⟨_, _, _, _, o, _, _, e, _⟩ := x; exact Heap.lt_size e
  | set S n => obtain ⟨o, _, _, _, e, _⟩ := x; exact Heap.lt_size e
  | ins C dx fs => obtain ⟨_, _, _, e, _⟩ := x; exact Heap.lt_size e
  | own y => obtain ⟨_, e⟩ := x; exact Heap.lt_size e
  | xd fs => obtain ⟨_, ⟨_, _, _, e, _⟩, _⟩ := x; exact Heap.lt_size e
  | rng lo hi => obtain ⟨_, _, _, e⟩ := x; exact Heap.lt_size e
  | frz ob u => obtain ⟨e, _⟩ := x; exact Heap.lt_size e
  | tbl ps => exact Heap.lt_size (show h.get? a = some _ from x)
  | met f y => exact Heap.lt_size (show h.get? a = some _ from x)
  | ext φ => obtain ⟨_, ⟨_, e⟩, _⟩ := x; exact Heap.lt_size e
theorem Paired.mapP {α β : Type} {F G : α → β → Prop} : ∀ {l₁ : List α} {l₂ : List β}, Paired F l₁ l₂ → (∀ a b, F a b → G a b) → Paired G l₁ l₂
  | _, _, .nil, _ => .nil
  | _, _, .cons r t, f => .cons (f _ _ r) (Paired.mapP t f)
theorem Paired.imp' {α β : Type} {F G : α → β → Prop} (f : ∀ a b, F a b → G a b) {l₁ : List α} {l₂ : List β} (r : Paired F l₁ l₂) : Paired G l₁ l₂ := Paired.mapP r f
/-- what an object's description leans on: its own object, its own dict, the tuples -/
theorem ObjOk.stay (x : ObjOk P w H h a o) (k : ∀ b u, (b = a ∨ H b = some (.own a)) → h.get? b = some u → h'.get? b = some u)
    (ho : ∀ b, H b = some (.own a) → H' b = some (.own a)) (ht : ∀ b xs, H b = some (.tup xs) → H' b = some (.tup xs)) : ObjOk P w H' h' a o := by
  induction o with
  | lst xs => obtain ⟨z, its, n, r, e⟩ := x; exact ⟨z, its, n, r, k _ _ (.inl rfl) e⟩
  | tup xs => obtain ⟨z, its, r, ob, e, c⟩ := x; exact ⟨z, its, r, ob, k _ _ (.inl rfl) e, c⟩
  | dK kvs => obtain ⟨z, y, vs, r, ob, es, ep, e, c⟩ := x; exact ⟨z, y, vs, r, ob, es, ep, k _ _ (.inl rfl) e, c⟩
  | dT kvs =>
    obtain ⟨z, y, xs, r, ob, es, ep, e, c⟩ := x
    exact ⟨z, y, xs, Paired.mapP r fun p q z => ⟨z.1, ht _ _ z.2.1, z.2.2⟩, ob, es, ep, k _ _ (.inl rfl) e, c⟩
  | set S n => obtain ⟨ob, es, ep, t, e, c⟩ := x; exact ⟨ob, es, ep, t, k _ _ (.inl rfl) e, c⟩
  | ins C dx fs =>
    obtain ⟨d, z, ne, e, mA, ⟨od, es, ep, e2, c⟩, r⟩ := x
    exact ⟨ho _ d, z, ne, k _ _ (.inl rfl) e, mA, ⟨od, es, ep, k _ _ (.inr d) e2, c⟩, r⟩
  | own y => obtain ⟨ob, e⟩ := x; exact ⟨ob, k _ _ (.inl rfl) e⟩
  | xd fs => obtain ⟨mA, ⟨od, es, ep, e, c⟩, r⟩ := x; exact ⟨mA, ⟨od, es, ep, k _ _ (.inl rfl) e, c⟩, r⟩
  | rng lo hi => obtain ⟨t, u, v, e⟩ := x; exact ⟨t, u, v, k _ _ (.inl rfl) e⟩
  | frz ob u ih => obtain ⟨e, q⟩ := x; exact ⟨k _ _ (.inl rfl) e, ih q⟩
  | tbl ps =>
    have e : h.get? a = some { cls := .none, data := .fields ps } := x
    show h'.get? a = some { cls := .none, data := .fields ps }
    exact k a _ (.inl rfl) e
  | met f y =>
    have e : h.get? a = some (PySem.W.methodObj (.ref f) (.ref y)) := x
    show h'.get? a = some (PySem.W.methodObj (.ref f) (.ref y))
    exact k a _ (.inl rfl) e
  | ext φ => obtain ⟨p, ⟨o, e⟩, st⟩ := x; exact ⟨st _ _ p fun o q => k _ _ (.inl rfl) q, ⟨o, k _ _ (.inl rfl) e⟩, st⟩
theorem HOk.lt (x : HOk P w H h) (e : H a = some o) : a < h.objs.size := (x a o e).lt
theorem HOk.fresh (x : HOk P w H h) (e : h.objs.size ≤ a) : H a = none := by
  cases q : H a with
  | none => rfl
  | some u => exact absurd (Nat.lt_of_lt_of_le (x.lt q) e) (Nat.lt_irrefl _)
/-- every object of the heap is kept -/
theorem HOk.kept (x : HOk P w H h) (k : ∀ b u, h.get? b = some u → h'.get? b = some u) : HOk P w H h' := fun a o e =>
  (x a o e).stay (fun b u _ q => k b u q) (fun _ q => q) fun _ _ q => q
/-- a new object is laid and tracked -/
theorem HOk.laid (x : HOk P w H h) (k : ∀ b u, h.get? b = some u → h'.get? b = some u) (hp : h.objs.size ≤ a) (new : ObjOk P w (upd H a o) h' a o) : HOk P w (upd H a o) h' := fun b u e => by
  have hn := x.fresh hp
  by_cases hb : b = a
  · subst hb; rw [upd_same] at e; cases e; exact new
  · rw [upd_ne hb] at e
    exact (x b u e).stay (fun c v _ q => k c v q) (fun c q => by rw [upd_ne (ne_of_none q hn)]; exact q) fun c xs q => by rw [upd_ne (ne_of_none q hn)]; exact q
end

/-- what may be read as u: it is u, or a known u -/
def Rd (H : Hp) (a : Addr) (u : HO) : Prop := H a = some u ∨ ∃ o, H a = some (.frz o u)
theorem Rd.of {H : Hp} {a : Addr} {u : HO} (h : H a = some u) : Rd H a u := .inl h
theorem Rd.ok {P : Program} {w : World} {H : Hp} {h : Heap} {a : Addr} {u : HO} (r : Rd H a u) (x : HOk P w H h) : ObjOk P w H h a u := by
  rcases r with r | ⟨o, r⟩
  · exact x a u r
  · obtain ⟨_, q⟩ := x a _ r
    exact q
/-- what may be written -/
def Mut : Option HO → Prop
  | some (.lst _) => True
  | some (.dK _) => True
  | some (.dT _) => True
  | some (.set _ _) => True
  | some (.ins _ _ _) => True
  | some (.ext _) => True
  | _ => False
section
variable {P : Program} {w : World} {H : Hp} {h h' : Heap} {x e : Addr} {o' : HO}
/-- the object at e is changed: x itself, or the dict of the instance x -/
theorem HOk.write (ok : HOk P w H h) (mu : Mut (H x)) (he : e = x ∨ H e = some (.own x)) (k : ∀ b u, b ≠ e → h.get? b = some u → h'.get? b = some u) (heo : ∃ u, h'.get? e = some u)
    (new : ObjOk P w (upd H x o') h' x o') : HOk P w (upd H x o') h' := fun b u q => by
  have nown : ∀ c y, H c = some (.own y) → c ≠ x := fun c y r z => by subst z; rw [r] at mu; exact mu
  have ntup : ∀ c xs, H c = some (.tup xs) → c ≠ x := fun c xs r z => by subst z; rw [r] at mu; exact mu
  by_cases hb : b = x
  · subst hb; rw [upd_same] at q; cases q; exact new
  · rw [upd_ne hb] at q
    by_cases hbe : b = e
    · have q' : H b = some (.own x) := by
        rcases he with z | z
        · exact absurd (hbe.trans z) hb
        · rw [hbe]; exact z
      rw [q] at q'; cases q'
      obtain ⟨v, hv⟩ := heo
      exact ⟨v, by rw [hbe]; exact hv⟩
    · refine (ok b u q).stay (fun c v hc r => k c v ?_ r) (fun c r => by rw [upd_ne (nown c b r)]; exact r) fun c xs r => by rw [upd_ne (ntup c xs r)]; exact r
      rcases hc with rfl | hc
      · exact hbe
      · rintro rfl
        rcases he with z | z
        · exact nown c b hc z
        · rw [hc] at z; cases z; exact hb rfl
end

/-! ### kept unless tracked; of the frames at fs (the callers') the slots may change (an exception that passes writes there); of the records at ex (iterators) nothing is said -/
structure Un (fs ex : List Addr) (H H' : Hp) (h h' : Heap) : Prop where
  keep : ∀ b o, h.get? b = some o → H b = none → b ∉ fs → b ∉ ex → h'.get? b = some o
  slot : ∀ b o, h.get? b = some o → H b = none → b ∈ fs → b ∉ ex → ∃ sl, h'.get? b = some { o with slots := sl }
  free : ∀ b o, h.get? b = some o → H b = none → b ∉ ex → H' b = none
  there : ∀ b o, h.get? b = some o → b ∉ ex → ∃ o', h'.get? b = some o'
  tups : ∀ b xs, H b = some (.tup xs) → H' b = some (.tup xs)
  frzs : ∀ b o u, H b = some (.frz o u) → H' b = some (.frz o u)
  tbls : ∀ b ps, H b = some (.tbl ps) → ∃ more, H' b = some (.tbl (ps ++ more))
section
variable {fs fs' ex ex' : List Addr} {H H1 H2 : Hp} {h h1 h2 h' : Heap} {a x e : Addr} {o : HO}
theorem Un.any (u : Un fs ex H H1 h h1) {b : Addr} {ob : Obj} (q : h.get? b = some ob) (n : H b = none) (hx : b ∉ ex) : ∃ sl, h1.get? b = some { ob with slots := sl } := by
  by_cases hb : b ∈ fs
  · exact u.slot b ob q n hb hx
  · exact ⟨ob.slots, u.keep b ob q n hb hx⟩
theorem Un.trans (a : Un fs ex H H1 h h1) (b : Un fs ex H1 H2 h1 h2) : Un fs ex H H2 h h2 where
  keep := fun c ob q n hc hx => b.keep c ob (a.keep c ob q n hc hx) (a.free c ob q n hx) hc hx
  slot := fun c ob q n hc hx => by
    obtain ⟨sl, e1⟩ := a.slot c ob q n hc hx
    obtain ⟨sl', e2⟩ := b.slot c _ e1 (a.free c ob q n hx) hc hx
    exact ⟨sl', e2⟩
  free := fun c ob q n hx => by
    obtain ⟨o', e1⟩ := a.there c ob q hx
    exact b.free c o' e1 (a.free c ob q n hx) hx
  there := fun c ob q hx => by
    obtain ⟨o', e1⟩ := a.there c ob q hx
    exact b.there c o' e1 hx
  tups := fun c xs q => b.tups c xs (a.tups c xs q)
  frzs := fun c ob xs q => b.frzs c ob xs (a.frzs c ob xs q)
  tbls := fun c ps q => by
    obtain ⟨m1, e1⟩ := a.tbls c ps q
    obtain ⟨m2, e2⟩ := b.tbls c _ e1
    exact ⟨m1 ++ m2, by rw [e2, Array.append_assoc]⟩
theorem Un.kept (k : ∀ b u, h.get? b = some u → h'.get? b = some u) : Un fs ex H H h h' :=
  ⟨fun b ob q _ _ _ => k b ob q, fun b ob q _ _ _ => ⟨ob.slots, k b ob q⟩, fun _ _ _ n _ => n, fun b ob q _ => ⟨ob, k b ob q⟩, fun _ _ q => q, fun _ _ _ q => q, fun _ ps q => ⟨#[], by rw [q]; simp⟩⟩
theorem Un.refl : Un fs ex H H h h := Un.kept fun _ _ q => q
theorem Un.laid (k : ∀ b u, h.get? b = some u → h'.get? b = some u) (hp : h.objs.size ≤ a) (hn : H a = none) : Un fs ex H (upd H a o) h h' where
  keep := fun b u q _ _ _ => k b u q
  slot := fun b u q _ _ _ => ⟨u.slots, k b u q⟩
  free := fun b u q n _ => by rw [upd_ne (Nat.ne_of_lt (Nat.lt_of_lt_of_le (Heap.lt_size q) hp))]; exact n
  there := fun b u q _ => ⟨u, k b u q⟩
  tups := fun b xs q => by rw [upd_ne (ne_of_none q hn)]; exact q
  frzs := fun b u xs q => by rw [upd_ne (ne_of_none q hn)]; exact q
  tbls := fun b ps q => ⟨#[], by rw [upd_ne (ne_of_none q hn), q]; simp⟩
theorem Un.write (mu : Mut (H x)) (he : e = x ∨ H e = some (.own x)) (k : ∀ b u, b ≠ e → h.get? b = some u → h'.get? b = some u) (heo : ∃ u, h'.get? e = some u) : Un fs ex H (upd H x o) h h' := by
  have hx : ∀ b, H b = none → b ≠ x := fun b n z => by subst z; rw [n] at mu; exact mu
  have hb : ∀ b, H b = none → b ≠ e := fun b n z => by
    subst z
    rcases he with r | r
    · exact hx b n r
    · rw [n] at r; cases r
  have hm : ∀ b u, H b = some u → ¬ Mut (some u) → b ≠ x := fun b u q nm z => by subst z; rw [q] at mu; exact nm mu
  refine ⟨fun b u q n _ _ => k b u (hb b n) q, fun b u q n _ _ => ⟨u.slots, k b u (hb b n) q⟩, fun b u q n _ => by rw [upd_ne (hx b n)]; exact n, fun b u q _ => ?_,
    fun b xs q => by rw [upd_ne (hm b _ q fun z => z)]; exact q, fun b u xs q => by rw [upd_ne (hm b _ q fun z => z)]; exact q, fun b ps q => ⟨#[], by rw [upd_ne (hm b _ q fun z => z), q]; simp⟩⟩
  by_cases hbe : b = e
  · subst hbe; exact heo
  · exact ⟨u, k b u hbe q⟩
theorem Un.mono (u : Un fs ex H H1 h h1) (hs : ∀ b ∈ fs, b ∈ fs') (hx : ∀ b ∈ ex, b ∈ ex') : Un fs' ex' H H1 h h1 :=
  ⟨fun b ob q n hb he => u.keep b ob q n (fun z => hb (hs b z)) fun z => he (hx b z), fun _ _ q n _ he => u.any q n fun z => he (hx _ z), fun b ob q n he => u.free b ob q n fun z => he (hx b z), fun b ob q he => u.there b ob q fun z => he (hx b z), u.tups, u.frzs, u.tbls⟩
end

/-! ### the heap without what is tracked -/
def trk (h : Heap) (H : Hp) : List Addr := (List.range h.objs.size).filter fun a => (H a).isSome
def hidT (h : Heap) (H : Hp) : Heap := PySem.W.hideAll h (trk h H)
theorem hidT_size (h : Heap) (H : Hp) : (hidT h H).objs.size = h.objs.size := PySem.W.hideAll_size _ _
theorem hidT_get {h : Heap} {H : Hp} {b : Addr} {o : Obj} (e : h.get? b = some o) (n : H b = none) : (hidT h H).get? b = some o :=
  PySem.W.hideAll_get _ e fun hm => by
    have q : (H b).isSome = true := (List.mem_filter.mp hm).2
    rw [n] at q; simp at q
theorem of_hidT {h : Heap} {H : Hp} {b : Addr} {o : Obj} (e : (hidT h H).get? b = some o) : h.get? b = some o ∧ H b = none := by
  have e' : h.get? b = some o := PySem.W.of_hideAll (trk h H) e
  refine ⟨e', ?_⟩
  cases q : H b with
  | none => rfl
  | some x =>
    have hm : b ∈ trk h H := List.mem_filter.mpr ⟨List.mem_range.mpr (Heap.lt_size e'), by simp [q]⟩
    have z : (hidT h H).get? b = none := PySem.W.hideAll_none (trk h H) hm
    rw [z] at e; cases e

/-! ### OpenK's ledger, filled with every new object but one -/
def allNews (g h : Heap) (L : Addr) : List (Addr × Obj) := (List.range h.objs.size).filterMap fun a => if a = L ∨ (g.get? a).isSome = true then none else (h.get? a).map fun o => (a, o)
theorem mem_allNews {g h : Heap} {L a : Addr} {o : Obj} (h1 : a ≠ L) (h2 : g.get? a = none) (h3 : h.get? a = some o) : (a, o) ∈ allNews g h L :=
  List.mem_filterMap.mpr ⟨a, List.mem_range.mpr (Heap.lt_size h3), by simp [h1, h2, h3]⟩
theorem of_mem_allNews {g h : Heap} {L : Addr} {p : Addr × Obj} (hp : p ∈ allNews g h L) : p.1 ≠ L ∧ g.get? p.1 = none ∧ h.get? p.1 = some p.2 := by
  obtain ⟨b, _, e⟩ := List.mem_filterMap.mp hp
  split at e
  · cases e
  · rename_i hn
    cases q : h.get? b with
    | none => rw [q] at e; simp at e
    | some u =>
      rw [q] at e
      simp only [Option.map_some, Option.some.injEq] at e
      subst e
      refine ⟨fun z => hn (.inl z), ?_, q⟩
      show g.get? b = none
      cases r : g.get? b with
      | none => rfl
      | some v => exact (hn (.inr (by simp [r]))).elim
def rest (g h : Heap) (L d : Addr) : List (Addr × Obj) := (allNews g h L).filter fun p => decide (p.1 ≠ d)
theorem rest_ne {g h : Heap} {L d : Addr} : ∀ p ∈ rest g h L d, p.1 ≠ d := fun p hp => of_decide_eq_true (List.mem_filter.mp hp).2
theorem mem_rest {g h : Heap} {L d a : Addr} {o : Obj} (h1 : a ≠ L) (h2 : g.get? a = none) (h3 : h.get? a = some o) (h4 : a ≠ d) : (a, o) ∈ rest g h L d :=
  List.mem_filter.mpr ⟨mem_allNews h1 h2 h3, decide_eq_true h4⟩
theorem news_all {g h : Heap} {L : Addr} : News g L h (allNews g h L) := fun p hp => let ⟨a, b, c⟩ := of_mem_allNews hp; ⟨c, a, b⟩
theorem news_at {g h : Heap} {L d : Addr} {o : Obj} (h1 : d ≠ L) (h2 : g.get? d = none) (h3 : h.get? d = some o) : News g L h ((d, o) :: rest g h L d) := fun p hp => by
  rcases List.mem_cons.mp hp with rfl | hp
  · exact ⟨h3, h1, h2⟩
  · exact news_all p (List.mem_filter.mp hp).1
/-- behind a rule that changed d alone: all else but the frame is kept -/
theorem kept_of_news {g h h' : Heap} {L d : Addr} {m : Str → Option Value} (k : ∀ b o, g.get? b = some o → h.get? b = some o) (F : Fr g L h' m) (N : News g L h' (rest g h L d)) :
    ∀ b o, b ≠ L → b ≠ d → h.get? b = some o → h'.get? b = some o := fun b o h1 h2 e => by
  cases q : g.get? b with
  | some u =>
    have := k b u q
    rw [e] at this; cases this
    exact F.keep b _ q
  | none => exact (N (b, o) (mem_rest h1 q e h2)).1
end L2

namespace L2
open PySem PySem.Spec PyProof.Rows

/-- the module's facts, over the base: the heap at the law's entry without what is tracked there -/
structure Mod (K : PySem.W.Frag) (mg : Str → Option Value) (base : Heap) : Prop where
  kin : K.In base
  glob : base.Ns mainGlobals mg
  blt : ∃ mb, base.Ns builtinsNs mb ∧ ∀ x : Str, x ≠ "__name__" → mb x = bootBuiltins x
  nolimit : base.NoLimit

/-- the context: a def's body (or a comprehension's block) running. base: fixed through the whole law; s₀, H₀: the entry; outer: the frames whose slots others may change (a def's callers); stack: all frames that run;
   ex: iterators that were made ahead of the entry and are walked here (a comprehension's); fn: the names whose cells were made at the entry (a def: all; a comprehension's block: its own); calm: not within an except suite; pn: pins that every state bears; xe: what is wanted of an exception that leaves the code -/
structure Cx where
  prog : Program
  w : World
  K : PySem.W.Frag
  mg : Str → Option Value
  base : Heap
  A : Around
  N : List Str
  s₀ : Shared
  H₀ : Hp
  env : Env
  outer : List Env
  stack : List Env
  ex : List Addr
  fn : Str → Bool
  calm : Bool
  pn : List (Addr × Obj)
  xe : Value → Shared → Prop
/-- the callers' frames -/
def frs (l : List Env) : List Addr := l.filterMap (·.frame)
abbrev Cx.fs (X : Cx) : List Addr := frs X.outer

def Vis (sc : Scope) (x : Str) : Prop := sc.names.lookup x = some .local ∨ sc.names.lookup x = some .cell ∨ sc.names.lookup x = some .free
def Loc (sc : Scope) (x : Str) : Prop := sc.names.lookup x = some .local ∨ sc.names.lookup x = some .cell
def Look (env : Env) (h : Heap) (m : Str → Option Value) (x : Str) (u : Value) : Prop :=
  (env.kindOf x = some .local ∧ m x = some u) ∨ ((env.kindOf x = some .cell ∨ env.kindOf x = some .free) ∧ ∃ c, env.cells.lookup x = some c ∧ h.IsCell c (some u))

structure Cx.Ok (X : Cx) : Prop where
  mod : Mod X.K X.mg X.base
  kind : X.env.scope.kind = .function
  glob : X.env.globals = mainGlobals
  blt : X.env.builtins = builtinsNs
  above : X.s₀.heap.objs.size ≤ X.env.locals
  inj : ∀ x y c, X.env.cells.lookup x = some c → X.env.cells.lookup y = some c → x = y
  has : ∀ x, (X.env.kindOf x = some .cell ∨ X.env.kindOf x = some .free) → ∃ c, X.env.cells.lookup x = some c
  cab : ∀ x c, X.fn x = true → X.env.cells.lookup x = some c → X.s₀.heap.objs.size ≤ c
  hd : X.calm = true → X.A.handled = none
  frames : X.A.frames = some X.stack
  stk : X.stack = X.outer ∨ (X.stack = X.env :: X.outer ∧ X.env.frame = some X.env.locals)
  exf : ∀ b ∈ X.ex, b ≠ X.env.locals ∧ ∀ x c, X.env.cells.lookup x = some c → c ≠ b
  bs : ∀ b o, X.base.get? b = some o → X.s₀.heap.get? b = some o ∧ X.H₀ b = none
  bsz : X.base.objs.size ≤ X.s₀.heap.objs.size
  noex : ∀ b o, X.base.get? b = some o → b ∉ X.ex
  exfs : ∀ b ∈ X.ex, b ∉ X.fs
  funs : X.s₀.heap.FunFrames X.base X.outer
  frf : ∀ b ∈ X.fs, X.H₀ b = none

structure Inv (X : Cx) (pins : List (Addr × Obj)) (σ : List (Option V)) (H : Hp) (s : Shared) : Prop where
  ok : X.Ok
  os : s.os = X.s₀.os
  bare : AllBare s.gens
  base : Un X.fs X.ex X.H₀ H X.s₀.heap s.heap
  loc : ∃ m, s.heap.Ns X.env.locals m ∧ ∀ (i : Nat) (x : Str) (v : V), X.N[i]? = some x → σ[i]? = some (some v) → Vis X.env.scope x → ∃ u, RelV v u ∧ Look X.env s.heap m x u
  cell : ∀ x c, X.env.cells.lookup x = some c → ∃ v, s.heap.IsCell c v
  free : H X.env.locals = none
  freeC : ∀ x c, X.env.cells.lookup x = some c → H c = none
  pin : ∀ p ∈ X.pn ++ pins, s.heap.get? p.1 = some p.2 ∧ H p.1 = none ∧ p.1 ≠ X.env.locals ∧ p.1 ∉ X.fs ∧ ∀ v, p.2.data ≠ .cell v
  hok : HOk X.prog X.w H s.heap
  len : σ.length = X.N.length

section
variable {X : Cx} {pins : List (Addr × Obj)} {σ : List (Option V)} {H H' : Hp} {s : Shared} {h' : Heap}

theorem Cx.Ok.nofr (ok : X.Ok) {b : Addr} {o : Obj} (e : X.base.get? b = some o) : b ∉ X.fs := fun hb => by
  have := (ok.funs.mem hb).1
  rw [e] at this; cases this
theorem Inv.bs (I : Inv X pins σ H s) : ∀ b o, X.base.get? b = some o → s.heap.get? b = some o ∧ H b = none := fun b o e =>
  ⟨I.base.keep b o (I.ok.bs b o e).1 (I.ok.bs b o e).2 (I.ok.nofr e) (I.ok.noex b o e), I.base.free b o (I.ok.bs b o e).1 (I.ok.bs b o e).2 (I.ok.noex b o e)⟩
theorem Inv.bk (I : Inv X pins σ H s) : ∀ b o, X.base.get? b = some o → s.heap.get? b = some o := fun b o e => (I.bs b o e).1
theorem Inv.mod (I : Inv X pins σ H s) : Mod X.K X.mg X.base := I.ok.mod
theorem Inv.kIn (I : Inv X pins σ H s) : X.K.In s.heap := I.ok.mod.kin.keeps I.bk
theorem Inv.nolimit (I : Inv X pins σ H s) : s.heap.NoLimit := I.ok.mod.nolimit.keeps I.bk
/-- the frame over the base: for OpenK's rules (K.In X.base is I.mod.kin) -/
theorem Inv.fr (I : Inv X pins σ H s) : ∃ m, Fr X.base X.env.locals s.heap m :=
  let ⟨m, hn, _⟩ := I.loc
  ⟨m, hn, I.bk, Nat.le_trans I.ok.bsz I.ok.above⟩
theorem Inv.lt (I : Inv X pins σ H s) : X.env.locals < s.heap.objs.size := let ⟨_, hn, _⟩ := I.loc; hn.lt
theorem Inv.sz (I : Inv X pins σ H s) : X.s₀.heap.objs.size ≤ s.heap.objs.size := Nat.le_trans I.ok.above (Nat.le_of_lt I.lt)
theorem Inv.nofs (I : Inv X pins σ H s) {a : Addr} (h : s.heap.objs.size ≤ a) : a ∉ X.fs := fun hb => by
  obtain ⟨_, o, ho, _⟩ := I.ok.funs.mem hb
  exact absurd (Nat.lt_of_lt_of_le (Heap.lt_size ho) (Nat.le_trans I.sz h)) (Nat.lt_irrefl _)
theorem Inv.cne (I : Inv X pins σ H s) : ∀ x c, X.env.cells.lookup x = some c → c ≠ X.env.locals := fun x c e z => by
  obtain ⟨v, o, ho, hd⟩ := I.cell x c e
  obtain ⟨m, ⟨o', es, ep, ho', hd', _⟩, _⟩ := I.loc
  rw [z, ho'] at ho; cases ho; rw [hd'] at hd; cases hd
theorem Inv.funs (I : Inv X pins σ H s) : s.heap.FunFrames X.base X.outer := by
  have all : ∀ (l : List Env), (∀ b ∈ frs l, b ∈ X.fs) → X.s₀.heap.FunFrames X.base l → s.heap.FunFrames X.base l := by
    intro l
    induction l with
    | nil => intro _ _; trivial
    | cons env r ih =>
      intro hs hl
      obtain ⟨hk, ⟨L, o, hf, hn, ho, hd⟩, hr⟩ := hl
      have hL : L ∈ X.fs := hs L (by unfold frs; rw [List.filterMap_cons, hf]; exact List.mem_cons_self)
      obtain ⟨sl, e⟩ := I.base.slot L o ho (I.ok.frf L hL) hL fun z => I.ok.exfs L z hL
      exact ⟨hk, ⟨L, _, hf, hn, e, hd⟩, ih (fun b hb => hs b (by unfold frs; rw [List.filterMap_cons, hf]; exact List.mem_cons_of_mem _ hb)) hr⟩
  exact all X.outer (fun _ hb => hb) I.ok.funs

/-- the frames that run, for a call -/
theorem Inv.stack (I : Inv X pins σ H s) : s.heap.FunFrames X.base X.stack := by
  rcases I.ok.stk with e | ⟨e, hf⟩
  · rw [e]; exact I.funs
  · rw [e]
    obtain ⟨m, hn, _⟩ := I.loc
    refine .cons (by rw [I.ok.kind]; decide) hf hn ?_ I.funs
    exact Heap.get?_none_of_le (Nat.le_trans I.ok.bsz I.ok.above)
theorem Inv.stkSub (I : Inv X pins σ H s) : ∀ b ∈ frs X.stack, b ∈ X.env.locals :: X.fs := fun b hb => by
  rcases I.ok.stk with e | ⟨e, hf⟩
  · rw [e] at hb; exact List.mem_cons_of_mem _ hb
  · rw [e] at hb
    unfold frs at hb
    rw [List.filterMap_cons, hf] at hb
    exact hb
theorem Inv.stkFree (I : Inv X pins σ H s) : ∀ b ∈ frs X.stack, H b = none := fun b hb => by
  rcases List.mem_cons.mp (I.stkSub b hb) with e | hb
  · rw [e]; exact I.free
  · obtain ⟨_, o, ho, _⟩ := I.ok.funs.mem hb
    exact I.base.free b o ho (I.ok.frf b hb) fun z => I.ok.exfs b z hb

/-- THE STEP: the untracked objects but the frame and the records at ch are kept (the callers' frames up to slots), the frame's map is kept, the new abstract heap is held -/
theorem Inv.step {g' : Array GenState} {t' : Nat} {d' : Drawn} {ch : List Addr} (I : Inv X pins σ H s)
    (hch : ∀ b ∈ ch, (b ∈ X.ex ∨ X.s₀.heap.objs.size ≤ b) ∧ b ≠ X.env.locals ∧ (∀ x c, X.env.cells.lookup x = some c → c ≠ b) ∧ ∀ p ∈ X.pn ++ pins, p.1 ≠ b)
    (keep : ∀ b o, b ≠ X.env.locals → b ∉ X.fs → b ∉ ch → s.heap.get? b = some o → H b = none → h'.get? b = some o)
    (slot : ∀ b o, b ≠ X.env.locals → b ∈ X.fs → b ∉ ch → s.heap.get? b = some o → H b = none → ∃ sl, h'.get? b = some { o with slots := sl }) (free : ∀ b o, b ∉ ch → s.heap.get? b = some o → H b = none → H' b = none)
    (there : ∀ b o, b ∉ ch → s.heap.get? b = some o → ∃ o', h'.get? b = some o')
    (tups : ∀ b xs, H b = some (.tup xs) → H' b = some (.tup xs)) (frzs : ∀ b o u, H b = some (.frz o u) → H' b = some (.frz o u)) (tbls : ∀ b ps, H b = some (.tbl ps) → ∃ more, H' b = some (.tbl (ps ++ more)))
    (ns : ∀ m, s.heap.Ns X.env.locals m → h'.Ns X.env.locals m) (hok : HOk X.prog X.w H' h') (hg : AllBare g') :
    Inv X pins σ H' { s with heap := h', gens := g', drawn := d', toks := t' } := by
  have neL : ∀ b o, X.s₀.heap.get? b = some o → b ≠ X.env.locals := fun b o e => Nat.ne_of_lt (Nat.lt_of_lt_of_le (Heap.lt_size e) I.ok.above)
  have neC : ∀ b o, X.s₀.heap.get? b = some o → b ∉ X.ex → b ∉ ch := fun b o e hx hb => by
    rcases (hch b hb).1 with z | z
    · exact hx z
    · exact absurd (Nat.lt_of_lt_of_le (Heap.lt_size e) z) (Nat.lt_irrefl _)
  have cellK : ∀ x c, X.env.cells.lookup x = some c → ∀ v, s.heap.IsCell c v → h'.IsCell c v := fun x c e v ⟨o, ho, hd⟩ => by
    have nch : c ∉ ch := fun z => (hch c z).2.2.1 x c e rfl
    by_cases hc : c ∈ X.fs
    · obtain ⟨sl, q⟩ := slot c o (I.cne x c e) hc nch ho (I.freeC x c e)
      exact ⟨_, q, hd⟩
    · exact ⟨o, keep c o (I.cne x c e) hc nch ho (I.freeC x c e), hd⟩
  refine ⟨I.ok, I.os, hg, ⟨fun b o e n hb hx => ?_, fun b o e n hb hx => ?_, fun b o e n hx => ?_, fun b o e hx => ?_, fun b xs e => tups b xs (I.base.tups b xs e), fun b o xs e => frzs b o xs (I.base.frzs b o xs e), fun b ps e => ?_⟩, ?_, fun x c e => ?_, ?_, fun x c e => ?_, fun p hp => ?_, hok, I.len⟩
  · exact keep b o (neL b o e) hb (neC b o e hx) (I.base.keep b o e n hb hx) (I.base.free b o e n hx)
  · obtain ⟨sl, e1⟩ := I.base.slot b o e n hb hx
    obtain ⟨sl', e2⟩ := slot b _ (neL b o e) hb (neC b o e hx) e1 (I.base.free b o e n hx)
    exact ⟨sl', e2⟩
  · obtain ⟨o', e1⟩ := I.base.there b o e hx
    exact free b o' (neC b o e hx) e1 (I.base.free b o e n hx)
  · obtain ⟨o', e1⟩ := I.base.there b o e hx
    exact there b o' (neC b o e hx) e1
  · obtain ⟨m1, e1⟩ := I.base.tbls b ps e
    obtain ⟨m2, e2⟩ := tbls b _ e1
    exact ⟨m1 ++ m2, by rw [e2, Array.append_assoc]⟩
  · obtain ⟨m, hn, hl⟩ := I.loc
    refine ⟨m, ns m hn, fun i x v e1 e2 e3 => ?_⟩
    obtain ⟨u, r, l⟩ := hl i x v e1 e2 e3
    refine ⟨u, r, ?_⟩
    rcases l with l | ⟨k, c, e, z⟩
    · exact .inl l
    · exact .inr ⟨k, c, e, cellK x c e _ z⟩
  · obtain ⟨v, z⟩ := I.cell x c e
    exact ⟨v, cellK x c e v z⟩
  · obtain ⟨m, ⟨o, _, _, ho, _⟩, _⟩ := I.loc
    exact free _ o (fun z => (hch _ z).2.1 rfl) ho I.free
  · obtain ⟨v, o, ho, hd⟩ := I.cell x c e
    exact free c o (fun z => (hch c z).2.2.1 x c e rfl) ho (I.freeC x c e)
  · obtain ⟨e, n, ne, nf, d⟩ := I.pin p hp
    have nch : p.1 ∉ ch := fun z => (hch p.1 z).2.2.2 p hp rfl
    exact ⟨keep p.1 p.2 ne nf nch e n, free p.1 p.2 nch e n, ne, nf, d⟩
/-- .. where the frame's own object is kept too -/
theorem Inv.un {t' : Nat} (I : Inv X pins σ H s) (u : Un X.fs [] H H' s.heap h') (hok : HOk X.prog X.w H' h') : Inv X pins σ H' { s with heap := h', toks := t' } := by
  obtain ⟨m, ⟨o, es, ep, ho, r⟩, _⟩ := id I.loc
  obtain ⟨sl, hL⟩ := u.any ho I.free (by simp)
  exact I.step (g' := s.gens) (d' := s.drawn) (ch := []) (fun _ z => nomatch z) (fun b o _ hb _ e n => u.keep b o e n hb (by simp)) (fun b o _ hb _ e n => u.slot b o e n hb (by simp)) (fun b o _ e n => u.free b o e n (by simp)) (fun b o _ e => u.there b o e (by simp)) u.tups u.frzs u.tbls (fun m' hm => by
    obtain ⟨o', es', ep', ho', r'⟩ := hm
    rw [ho] at ho'; cases ho'
    exact ⟨_, es', ep', hL, r'⟩) hok I.bare
/-- behind a call (or a comprehension's block): the slots of this frame may have changed too, the records at ch may have turned -/
theorem Inv.call {g' : Array GenState} {t' : Nat} {d' : Drawn} {ch : List Addr} (I : Inv X pins σ H s) (u : Un (frs X.stack) ch H H' s.heap h') (hok : HOk X.prog X.w H' h') (hg : AllBare g')
    (hch : ∀ b ∈ ch, (b ∈ X.ex ∨ X.s₀.heap.objs.size ≤ b) ∧ b ≠ X.env.locals ∧ (∀ x c, X.env.cells.lookup x = some c → c ≠ b) ∧ ∀ p ∈ X.pn ++ pins, p.1 ≠ b) :
    Inv X pins σ H' { s with heap := h', gens := g', drawn := d', toks := t' } := by
  obtain ⟨m, ⟨o, es, ep, ho, r⟩, _⟩ := id I.loc
  obtain ⟨sl, hL⟩ := u.any ho I.free fun z => (hch _ z).2.1 rfl
  exact I.step (ch := ch) hch (fun b o hL hb hc e n => u.keep b o e n (fun z => (List.mem_cons.mp (I.stkSub b z)).elim hL hb) hc) (fun b o _ _ hc e n => u.any e n hc) (fun b o hc e n => u.free b o e n hc) (fun b o hc e => u.there b o e hc) u.tups u.frzs u.tbls (fun m' hm => by
    obtain ⟨o', es', ep', ho', r'⟩ := hm
    rw [ho] at ho'; cases ho'
    exact ⟨_, es', ep', hL, r'⟩) hok hg
/-- an untracked record of ours (an iterator) has turned -/
theorem Inv.turned {t' : Nat} {it : Addr} (I : Inv X pins σ H s) (k : ∀ b o, b ≠ it → s.heap.get? b = some o → h'.get? b = some o) (hn : H it = none) (hL : it ≠ X.env.locals)
    (h1 : it ∈ X.ex ∨ X.s₀.heap.objs.size ≤ it) (h2 : ∀ x c, X.env.cells.lookup x = some c → c ≠ it) (h3 : ∀ p ∈ X.pn ++ pins, p.1 ≠ it) : Inv X pins σ H { s with heap := h', toks := t' } := by
  have nit : ∀ b u, H b = some u → b ≠ it := fun b u e z => by rw [z, hn] at e; cases e
  refine I.step (g' := s.gens) (d' := s.drawn) (ch := [it]) (fun b hb => ?_) (fun b o _ _ hc e _ => k b o (fun z => hc (by simp [z])) e) (fun b o _ _ hc e _ => ⟨o.slots, k b o (fun z => hc (by simp [z])) e⟩) (fun _ _ _ _ n => n)
    (fun b o hc e => ⟨o, k b o (fun z => hc (by simp [z])) e⟩) (fun _ _ e => e) (fun _ _ _ e => e) (fun b ps e => ⟨#[], by rw [e]; simp⟩) (fun m hm => ?_) (fun b u e => ?_) I.bare
  · have e : b = it := by simpa using hb
    subst e
    exact ⟨h1, hL, h2, h3⟩
  · obtain ⟨o, es, ep, ho, r⟩ := hm
    exact ⟨o, es, ep, k _ o (Ne.symm hL) ho, r⟩
  · refine (I.hok b u e).stay (fun c v hc q => k c v ?_ q) (fun _ q => q) fun _ _ q => q
    rcases hc with z | z
    · rw [z]; exact nit b u e
    · exact nit c _ z
theorem Inv.tok (I : Inv X pins σ H s) (t : Nat) : Inv X pins σ H { s with toks := t } := I.un (h' := s.heap) (t' := t) Un.refl I.hok
/-- all objects kept -/
theorem Inv.kept {t' : Nat} (I : Inv X pins σ H s) (k : ∀ b u, s.heap.get? b = some u → h'.get? b = some u) : Inv X pins σ H { s with heap := h', toks := t' } := I.un (Un.kept k) (I.hok.kept k)
/-- a new object laid and tracked -/
theorem Inv.laid {a : Addr} {o : HO} {t' : Nat} (I : Inv X pins σ H s) (k : ∀ b u, s.heap.get? b = some u → h'.get? b = some u) (hp : s.heap.objs.size ≤ a) (new : ObjOk X.prog X.w (upd H a o) h' a o) :
    Inv X pins σ (upd H a o) { s with heap := h', toks := t' } := I.un (Un.laid k hp (I.hok.fresh hp)) (I.hok.laid k hp new)
/-- an object written -/
theorem Inv.write {x e : Addr} {o : HO} {t' : Nat} (I : Inv X pins σ H s) (mu : Mut (H x)) (he : e = x ∨ H e = some (.own x)) (k : ∀ b u, b ≠ e → s.heap.get? b = some u → h'.get? b = some u) (heo : ∃ u, h'.get? e = some u)
    (new : ObjOk X.prog X.w (upd H x o) h' x o) : Inv X pins σ (upd H x o) { s with heap := h', toks := t' } := I.un (Un.write mu he k heo) (I.hok.write mu he k heo new)
/-- forgetting slots, pins -/
theorem Inv.weak {σ' : List (Option V)} (I : Inv X pins σ H s) (hl : σ'.length = σ.length) (w : ∀ (i : Nat) v, σ'[i]? = some (some v) → σ[i]? = some (some v)) : Inv X pins σ' H s :=
  ⟨I.ok, I.os, I.bare, I.base, let ⟨m, hn, hl'⟩ := I.loc; ⟨m, hn, fun i x v e1 e2 e3 => hl' i x v e1 (w i v e2) e3⟩, I.cell, I.free, I.freeC, I.pin, I.hok, hl.trans I.len⟩
theorem Inv.pins_of {pins' : List (Addr × Obj)} (I : Inv X pins σ H s) (h : ∀ p ∈ pins', s.heap.get? p.1 = some p.2 ∧ H p.1 = none ∧ p.1 ≠ X.env.locals ∧ p.1 ∉ X.fs ∧ ∀ v, p.2.data ≠ .cell v) : Inv X pins' σ H s :=
  ⟨I.ok, I.os, I.bare, I.base, I.loc, I.cell, I.free, I.freeC, fun p hp => (List.mem_append.mp hp).elim (fun z => I.pin p (List.mem_append_left _ z)) (h p), I.hok, I.len⟩

theorem nodup_ix {N : List Str} (hN : N.Nodup) {i j : Nat} {x : Str} (a : N[i]? = some x) (b : N[j]? = some x) : i = j := by
  obtain ⟨h1, e1⟩ := List.getElem?_eq_some_iff.mp a
  obtain ⟨h2, e2⟩ := List.getElem?_eq_some_iff.mp b
  exact (List.getElem_inj hN).mp (e1.trans e2.symm)

/-- a name is stored; what changed -/
theorem store_ok2 {M : Model} {A : Around} {E : Value → Shared → Prop} {i : Nat} {x : Str} {v : V} {u : Value} {Q : Unit → Shared → Prop} (I : Inv X pins σ H s) (hN : X.N.Nodup) (hi : X.N[i]? = some x) (hx : Loc X.env.scope x) (r : RelV v u)
    (h : ∀ s', Inv X pins (σ.set i (some v)) H s' → (∃ a, Heap.SameBut a s.heap s'.heap ∧ (a = X.env.locals ∨ X.env.cells.lookup x = some a)) → Q () s') (hf : X.fn x = true ∨ X.env.scope.names.lookup x = some .local := by first | exact .inl rfl | exact .inr rfl | assumption) : wpAny M A (storeName X.env x u) Q E s := by
  obtain ⟨m, hn, hl⟩ := id I.loc
  have hcls : (X.env.scope.kind == .class || (X.env.scope.kind == .module && X.env.locals != X.env.globals)) = false := by rw [I.ok.kind]; rfl
  have hiσ : i < σ.length := by rw [I.len]; exact (List.getElem?_eq_some_iff.mp hi).1
  have cne := I.cne
  have tracked : ∀ {a : Addr} {h' : Heap}, (∃ o, s.heap.get? a = some o ∧ H a = none) → Heap.SameBut a s.heap h' → HOk X.prog X.w H h' := fun {a h'} ha hs b ob e => by
    obtain ⟨_, _, hfree⟩ := ha
    refine (I.hok b ob e).stay (fun c w' hc q => (hs.2 c ?_).trans q) (fun _ q => q) fun _ _ q => q
    rintro rfl
    rcases hc with rfl | hc
    · rw [hfree] at e; cases e
    · rw [hfree] at hc; cases hc
  rcases hx with hk | hk
  · refine wpAny_storeName_local hk hn (fun h' hn' hs => ?_) hcls
    obtain ⟨oL, _, _, hoL, _⟩ := id hn
    refine h _ ⟨I.ok, I.os, I.bare, ⟨fun b o e n hb hx => ?_, fun b o e n hb hx => ?_, I.base.free, fun b o e hx => ?_, I.base.tups, I.base.frzs, I.base.tbls⟩, ⟨_, hn', fun j y v' e1 e2 e3 => ?_⟩, fun y c e => ?_, I.free, I.freeC, fun p hp => ?_, tracked ⟨oL, hoL, I.free⟩ hs, by simpa using I.len⟩ ⟨_, hs, .inl rfl⟩
    · exact (hs.2 b (Nat.ne_of_lt (Nat.lt_of_lt_of_le (Heap.lt_size e) I.ok.above))).trans (I.base.keep b o e n hb hx)
    · obtain ⟨sl, e1⟩ := I.base.slot b o e n hb hx
      exact ⟨sl, (hs.2 b (Nat.ne_of_lt (Nat.lt_of_lt_of_le (Heap.lt_size e) I.ok.above))).trans e1⟩
    · obtain ⟨o', e1⟩ := I.base.there b o e hx
      exact ⟨o', (hs.2 b (Nat.ne_of_lt (Nat.lt_of_lt_of_le (Heap.lt_size e) I.ok.above))).trans e1⟩
    · by_cases hj : j = i
      · subst hj
        rw [hi] at e1; cases e1
        rw [List.getElem?_set_self hiσ] at e2
        cases e2
        exact ⟨u, r, .inl ⟨hk, by simp⟩⟩
      · rw [List.getElem?_set_ne (Ne.symm hj)] at e2
        obtain ⟨u', r', q⟩ := hl j y v' e1 e2 e3
        refine ⟨u', r', ?_⟩
        rcases q with ⟨k, e⟩ | ⟨k, c, e, z⟩
        · refine .inl ⟨k, ?_⟩
          have : y ≠ x := fun e => hj (nodup_ix hN e1 (e ▸ hi))
          simp [this, e]
        · exact .inr ⟨k, c, e, z.sameBut hs (cne y c e)⟩
    · obtain ⟨w', z⟩ := I.cell y c e
      exact ⟨w', z.sameBut hs (cne y c e)⟩
    · obtain ⟨e, n, ne, nf, d⟩ := I.pin p hp
      exact ⟨(hs.2 p.1 ne).trans e, n, ne, nf, d⟩
  · have hfn : X.fn x = true := by
      rcases hf with z | z
      · exact z
      · rw [z] at hk; cases hk
    obtain ⟨c, hc⟩ := I.ok.has x (.inl hk)
    obtain ⟨w', z⟩ := I.cell x c hc
    refine wpAny_storeName_cell I.ok.kind hk hc z (fun h' hc' hs => ?_)
    obtain ⟨oc, hoc, hocd⟩ := id z
    refine h { s with heap := h' } ⟨I.ok, I.os, I.bare, ⟨fun b o e n hb hx => ?_, fun b o e n hb hx => ?_, I.base.free, fun b o e hx => ?_, I.base.tups, I.base.frzs, I.base.tbls⟩, ⟨m, hn.sameBut hs (Ne.symm (cne x c hc)), fun j y v' e1 e2 e3 => ?_⟩, fun y c' e => ?_, I.free, I.freeC, fun p hp => ?_, tracked ⟨oc, hoc, I.freeC x c hc⟩ hs, by simpa using I.len⟩ ⟨c, hs, .inr hc⟩
    · exact (hs.2 b (Nat.ne_of_lt (Nat.lt_of_lt_of_le (Heap.lt_size e) (I.ok.cab x c hfn hc)))).trans (I.base.keep b o e n hb hx)
    · obtain ⟨sl, e1⟩ := I.base.slot b o e n hb hx
      exact ⟨sl, (hs.2 b (Nat.ne_of_lt (Nat.lt_of_lt_of_le (Heap.lt_size e) (I.ok.cab x c hfn hc)))).trans e1⟩
    · obtain ⟨o', e1⟩ := I.base.there b o e hx
      exact ⟨o', (hs.2 b (Nat.ne_of_lt (Nat.lt_of_lt_of_le (Heap.lt_size e) (I.ok.cab x c hfn hc)))).trans e1⟩
    · by_cases hj : j = i
      · subst hj
        rw [hi] at e1; cases e1
        rw [List.getElem?_set_self hiσ] at e2
        cases e2
        exact ⟨u, r, .inr ⟨.inl hk, c, hc, hc'⟩⟩
      · rw [List.getElem?_set_ne (Ne.symm hj)] at e2
        obtain ⟨u', r', q⟩ := hl j y v' e1 e2 e3
        refine ⟨u', r', ?_⟩
        rcases q with q | ⟨k, c', e, z'⟩
        · exact .inl q
        · refine .inr ⟨k, c', e, z'.sameBut hs ?_⟩
          rintro rfl
          exact hj (nodup_ix hN e1 (I.ok.inj _ _ _ e hc ▸ hi))
    · by_cases hcc : c' = c
      · subst hcc; exact ⟨_, hc'⟩
      · obtain ⟨w2, z2⟩ := I.cell y c' e
        exact ⟨w2, z2.sameBut hs hcc⟩
    · obtain ⟨e, n, ne, nf, d⟩ := I.pin p hp
      refine ⟨(hs.2 p.1 ?_).trans e, n, ne, nf, d⟩
      intro q
      rw [q, hoc] at e
      have q' : oc = p.2 := Option.some.inj e
      exact d w' (by rw [← q']; exact hocd)
theorem store_ok {M : Model} {A : Around} {E : Value → Shared → Prop} {i : Nat} {x : Str} {v : V} {u : Value} {Q : Unit → Shared → Prop} (I : Inv X pins σ H s) (hN : X.N.Nodup) (hi : X.N[i]? = some x) (hx : Loc X.env.scope x) (r : RelV v u)
    (h : ∀ s', Inv X pins (σ.set i (some v)) H s' → Q () s') (hf : X.fn x = true ∨ X.env.scope.names.lookup x = some .local := by first | exact .inl rfl | exact .inr rfl | assumption) : wpAny M A (storeName X.env x u) Q E s :=
  store_ok2 I hN hi hx r (fun s' I' _ => h s' I') hf
/-- behind a call or a block, the state as it is -/
theorem Inv.call' {s' : Shared} {ch : List Addr} (I : Inv X pins σ H s) (ho : s'.os = s.os) (u : Un (frs X.stack) ch H H' s.heap s'.heap) (hok : HOk X.prog X.w H' s'.heap) (hg : AllBare s'.gens)
    (hch : ∀ b ∈ ch, (b ∈ X.ex ∨ X.s₀.heap.objs.size ≤ b) ∧ b ≠ X.env.locals ∧ (∀ x c, X.env.cells.lookup x = some c → c ≠ b) ∧ ∀ p ∈ X.pn ++ pins, p.1 ≠ b) : Inv X pins σ H' s' := by
  obtain ⟨h', g', d', t', o'⟩ := s'
  have e : o' = s.os := ho
  subst e
  exact I.call (g' := g') (t' := t') (d' := d') u hok hg hch
end

/-! ### the judgements -/
/-- an exception: its class, its own dict's address (where it has one), the abstract heap behind it -/
abbrev XK := Value → Option Addr → Hp → Prop
abbrev St := List (Option V)
abbrev VK := V → Hp → Prop
/-- an expression's reading; a test's; an argument list's -/
abbrev TE := St → Hp → VK → Prop
abbrev TT := St → Hp → (Bool → Hp → Prop) → Prop
abbrev TA := St → Hp → (List V → Hp → Prop) → Prop
/-- what is wanted behind a statement -/
structure Ends where
  nx : St → Hp → Prop
  rt : VK
  bk : St → Hp → Prop := fun _ _ => False
  ct : St → Hp → Prop := fun _ _ => False
abbrev TS := Ends → St → Hp → Prop

def EP (X : Cx) (pins : List (Addr × Obj)) (σ : St) (Q : VK) (u : Value) (s' : Shared) : Prop := ∃ v H', Inv X pins σ H' s' ∧ RelV v u ∧ Q v H'
def TP (X : Cx) (pins : List (Addr × Obj)) (σ : St) (Q : Bool → Hp → Prop) (b : Bool) (s' : Shared) : Prop := ∃ H', Inv X pins σ H' s' ∧ Q b H'
def AP (X : Cx) (pins : List (Addr × Obj)) (σ : St) (Q : List V → Hp → Prop) (us : List Value) (s' : Shared) : Prop := ∃ vs H', Inv X pins σ H' s' ∧ Vals vs us ∧ Q vs H'
def SP (X : Cx) (pins : List (Addr × Obj)) (D : Ends) (f : Flow) (s' : Shared) : Prop :=
  match f with
  | .next => ∃ σ' H', Inv X pins σ' H' s' ∧ D.nx σ' H'
  | .brk => ∃ σ' H', Inv X pins σ' H' s' ∧ D.bk σ' H'
  | .cont => ∃ σ' H', Inv X pins σ' H' s' ∧ D.ct σ' H'
  | .ret u => ∃ v σ' H', Inv X pins σ' H' s' ∧ RelV v u ∧ D.rt v H'

def PE (X : Cx) (e : Expr) (t : TE) : Prop :=
  ∀ (pins : List (Addr × Obj)) (s : Shared) (σ : St) (H : Hp) (Q : VK), Inv X pins σ H s → t σ H Q → wpAny (model X.prog X.w) X.A (eval e X.env) (EP X pins σ Q) X.xe s
def PT (X : Cx) (e : Expr) (t : TT) : Prop :=
  ∀ (pins : List (Addr × Obj)) (s : Shared) (σ : St) (H : Hp) (Q : Bool → Hp → Prop), Inv X pins σ H s → t σ H Q → wpAny (model X.prog X.w) X.A (isTrue e X.env (eval e X.env)) (TP X pins σ Q) X.xe s
/-- a test whatever its 'whole' is (and, or) -/
def PW (X : Cx) (e : Expr) (t : TT) : Prop :=
  ∀ (whole : Sem Value) (pins : List (Addr × Obj)) (s : Shared) (σ : St) (H : Hp) (Q : Bool → Hp → Prop), Inv X pins σ H s → t σ H Q → wpAny (model X.prog X.w) X.A (isTrue e X.env whole) (TP X pins σ Q) X.xe s
theorem PW.pt {X : Cx} {e : Expr} {t : TT} (h : PW X e t) : PT X e t := h _
/-- an argument list (no star), from the left -/
def PA (X : Cx) (es : List Expr) (t : TA) : Prop :=
  ∀ (pos : Pos) (pins : List (Addr × Obj)) (s : Shared) (σ : St) (H : Hp) (Q : List V → Hp → Prop), Inv X pins σ H s → t σ H Q → wpAny (model X.prog X.w) X.A (spliced (backTo pos (starEach es X.env))) (AP X pins σ Q) X.xe s
def PS (X : Cx) (st : Stmt) (t : TS) : Prop :=
  ∀ (pins : List (Addr × Obj)) (s : Shared) (σ : St) (H : Hp) (D : Ends), Inv X pins σ H s → t D σ H → wpAny (model X.prog X.w) X.A (exec st X.env) (SP X pins D) X.xe s
def PSs (X : Cx) (st : List Stmt) (t : TS) : Prop :=
  ∀ (pins : List (Addr × Obj)) (s : Shared) (σ : St) (H : Hp) (D : Ends), Inv X pins σ H s → t D σ H → wpAny (model X.prog X.w) X.A (execs st X.env) (SP X pins D) X.xe s
/-- weaken the end -/
theorem thn {α : Type} {t : Sem α} {Q Q' : α → Shared → Prop} {M : Model} {A : Around} {E : Value → Shared → Prop} {s : Shared} (h : wpAny M A t Q E s) (hQ : ∀ a s, Q a s → Q' a s) : wpAny M A t Q' E s := wpAny_mono h hQ fun _ _ x => x
end L2

namespace L2
open PySem PySem.Spec PyProof.Rows
section
variable {X : Cx}

/-- two expressions in a row -/
theorem bin {a b : Expr} {ta tb : TE} (ha : PE X a ta) (hb : PE X b tb) {pins : List (Addr × Obj)} {s : Shared} {σ : St} {H : Hp} {R : V → V → Hp → Prop} (I : Inv X pins σ H s) (h : ta σ H fun x H1 => tb σ H1 fun y H2 => R x y H2)
    {α : Type} {Q : α → Shared → Prop} {f : Value → Value → Sem α}
    (hf : ∀ v u s2 x y H2, Inv X pins σ H2 s2 → RelV x v → RelV y u → R x y H2 → wpAny (model X.prog X.w) X.A (f v u) Q X.xe s2) :
    wpAny (model X.prog X.w) X.A (eval a X.env) (fun v s₁ => wpAny (model X.prog X.w) X.A (eval b X.env) (fun u s₂ => wpAny (model X.prog X.w) X.A (f v u) Q X.xe s₂) X.xe s₁) X.xe s := by
  refine thn (ha pins s σ H _ I h) fun v s1 ⟨x, H1, I1, r1, q1⟩ => ?_
  refine thn (hb pins s1 σ H1 _ I1 q1) fun u s2 ⟨y, H2, I2, r2, q2⟩ => ?_
  exact hf v u s2 x y H2 I2 r1 r2 q2

/-! ### names and constants -/
def tVar (i : Nat) : TE := fun σ H Q => ∃ v, σ[i]? = some (some v) ∧ Q v H
def tC (v : V) : TE := fun _ H Q => Q v H
theorem pe_var {i : Nat} {x : Str} {pos : Pos} (hN : X.N[i]? = some x) (hv : Vis X.env.scope x) (hd : (x == ("__debug__" : Str)) = false := by decide) (hcd : (x == ("__classdict__" : Str)) = false := by decide) : PE X (.Name x pos) (tVar i) := by
  intro pins s σ H Q I h
  obtain ⟨v, e, h⟩ := h
  obtain ⟨m, hn, hl⟩ := I.loc
  obtain ⟨u, r, l⟩ := hl i x v hN e hv
  have fin : EP X pins σ Q u s := ⟨v, H, I, r, h⟩
  rcases l with ⟨hk, hm⟩ | ⟨hk, c, hc, hcell⟩
  · exact wpAny_Name (wpAny_loadName_local I.ok.kind hk hn hm fin) hd
  · rcases hk with hk | hk
    · exact wpAny_Name (wpAny_loadName_cell I.ok.kind hk hc hcell fin) hd
    · exact wpAny_Name (wpAny_loadName_free I.ok.kind hk hc hcell fin hcd) hd
theorem pe_int {i j pos} : PE X (.Constant (.int i) j pos) (tC (.int i)) := fun _ _ _ H _ I h => wpAny_Constant_int ⟨.int i, H, I.tok _, ⟨_, rfl⟩, h⟩
theorem pe_bl {b j pos} : PE X (.Constant (.bool b) j pos) (tC (.bl b)) := fun _ _ _ H _ I h => Constant_bool ⟨.bl b, H, I, rfl, h⟩
theorem pe_non {j pos} : PE X (.Constant .none j pos) (tC .non) := fun _ _ _ H _ I h => Constant_none ⟨.non, H, I, rfl, h⟩
theorem pe_str {x j pos} : PE X (.Constant (.str x) j pos) (tC (.str x)) := fun _ _ _ H _ I h => Calls.Constant_str ⟨.str x, H, I.tok _, ⟨_, rfl⟩, h⟩

/-- a global name of the def -/
def Gl (X : Cx) (x : Str) : Prop := X.env.kindOf x = some .globalImplicit
theorem ld_glob {E : Value → Shared → Prop} {pins : List (Addr × Obj)} {s : Shared} {σ : St} {H : Hp} {x : Str} {u : Value} {pos : Pos} {Q : Value → Shared → Prop} (I : Inv X pins σ H s) (hg : Gl X x) (hm : X.mg x = some u) (h : Q u s)
    (hd : (x == ("__debug__" : Str)) = false := by decide) : wpAny (model X.prog X.w) X.A (eval (.Name x pos) X.env) Q E s :=
  Calls.Name_function_global I.ok.kind hg (Calls.loadGlobal_global (by rw [I.ok.glob]; exact I.mod.glob.keeps I.bk) hm h) hd
theorem ld_blt {E : Value → Shared → Prop} {pins : List (Addr × Obj)} {s : Shared} {σ : St} {H : Hp} {x : Str} {u : Value} {pos : Pos} {Q : Value → Shared → Prop} (I : Inv X pins σ H s) (hg : Gl X x) (hm : X.mg x = none) (hv : bootBuiltins x = some u) (h : Q u s)
    (hn : x ≠ "__name__" := by decide) (hd : (x == ("__debug__" : Str)) = false := by decide) : wpAny (model X.prog X.w) X.A (eval (.Name x pos) X.env) Q E s := by
  obtain ⟨mb, h1, h2⟩ := I.mod.blt
  exact Calls.Name_function_global I.ok.kind hg (Calls.loadGlobal_builtin (by rw [I.ok.glob]; exact I.mod.glob.keeps I.bk) hm (by rw [I.ok.blt]; exact h1.keeps I.bk) ((h2 x hn).trans hv) h) hd
/-- a module's constant, a class, a function, as a value -/
theorem pe_glob {x : Str} {v : V} {u : Value} {pos : Pos} (hg : Gl X x) (hm : X.mg x = some u) (r : RelV v u) (hd : (x == ("__debug__" : Str)) = false := by decide) : PE X (.Name x pos) (tC v) :=
  fun _ _ _ H _ I h => ld_glob I hg hm ⟨v, H, I, r, h⟩ hd
theorem pe_bltn {x : Str} {v : V} {u : Value} {pos : Pos} (hg : Gl X x) (hm : X.mg x = none) (hv : bootBuiltins x = some u) (r : RelV v u) (hn : x ≠ "__name__" := by decide) (hd : (x == ("__debug__" : Str)) = false := by decide) : PE X (.Name x pos) (tC v) :=
  fun _ _ _ H _ I h => ld_blt I hg hm hv ⟨v, H, I, r, h⟩ hn hd

/-! ### arithmetic -/
/-- two ints -/
def t2I (ta tb : TE) (k : Int → Int → Hp → Prop) : St → Hp → Prop := fun σ H => ta σ H fun x H1 => tb σ H1 fun y H2 => ∃ i j, x = .int i ∧ y = .int j ∧ k i j H2
def tAdd (ta tb : TE) : TE := fun σ H Q => t2I ta tb (fun i j H2 => Q (.int (i + j)) H2) σ H
def tSub (ta tb : TE) : TE := fun σ H Q => t2I ta tb (fun i j H2 => Q (.int (i - j)) H2) σ H
/-- the left factor below 2^64 -/
def tMul (ta tb : TE) : TE := fun σ H Q => t2I ta tb (fun i j H2 => (-(2 ^ 64) < i ∧ i < 2 ^ 64) ∧ Q (.int (i * j)) H2) σ H
variable {a b : Expr} {ta tb : TE} {pos : Pos}
theorem pe_add (ha : PE X a ta) (hb : PE X b tb) : PE X (.BinOp a .Add b pos) (tAdd ta tb) := by
  intro pins s σ H Q I h
  refine wpAny_BinOp (bin ha hb I h fun v u s2 x y H2 I2 rx ry q => ?_)
  obtain ⟨i, j, rfl, rfl, q⟩ := q
  obtain ⟨t, rfl⟩ := rx
  obtain ⟨t', rfl⟩ := ry
  exact add_int ⟨.int _, H2, I2.tok _, ⟨_, rfl⟩, q⟩
theorem pe_sub (ha : PE X a ta) (hb : PE X b tb) : PE X (.BinOp a .Sub b pos) (tSub ta tb) := by
  intro pins s σ H Q I h
  refine wpAny_BinOp (bin ha hb I h fun v u s2 x y H2 I2 rx ry q => ?_)
  obtain ⟨i, j, rfl, rfl, q⟩ := q
  obtain ⟨t, rfl⟩ := rx
  obtain ⟨t', rfl⟩ := ry
  exact sub_int ⟨.int _, H2, I2.tok _, ⟨_, rfl⟩, q⟩
theorem pe_mul (ha : PE X a ta) (hb : PE X b tb) : PE X (.BinOp a .Mult b pos) (tMul ta tb) := by
  intro pins s σ H Q I h
  refine wpAny_BinOp (bin ha hb I h fun v u s2 x y H2 I2 rx ry q => ?_)
  obtain ⟨i, j, rfl, rfl, ⟨q1, q2⟩, q⟩ := q
  obtain ⟨t, rfl⟩ := rx
  obtain ⟨t', rfl⟩ := ry
  exact mul_int ⟨.int _, H2, I2.tok _, ⟨_, rfl⟩, q⟩ (.of_left (intBits_le_64 q1 q2))

/-! ### comparisons -/
def PC (X : Cx) (op : CmpOp) (a b : Expr) (t : TE) : Prop :=
  ∀ (pins : List (Addr × Obj)) (s : Shared) (σ : St) (H : Hp) (Q : VK), Inv X pins σ H s → t σ H Q →
    wpAny (model X.prog X.w) X.A (eval a X.env) (fun v s₁ => wpAny (model X.prog X.w) X.A (eval b X.env) (fun u s₂ => wpAny (model X.prog X.w) X.A (compareOp op v u) (EP X pins σ Q) X.xe s₂) X.xe s₁) X.xe s
theorem nobehind (b : Expr) {op : CmpOp} (h : op ≠ .In) (h2 : op ≠ .NotIn) : behindInMarks op b = false := by
  have e1 : (op == CmpOp.In) = false := by cases op <;> first | rfl | exact absurd rfl h
  have e2 : (op == CmpOp.NotIn) = false := by cases op <;> first | rfl | exact absurd rfl h2
  cases b <;> simp [behindInMarks, e1, e2]
def tCmp (p : Int → Int → Bool) (ta tb : TE) : TE := fun σ H Q => t2I ta tb (fun i j H2 => Q (.bl (p i j)) H2) σ H
abbrev tLt : TE → TE → TE := tCmp fun i j => decide (i < j)
abbrev tLe : TE → TE → TE := tCmp fun i j => decide (i ≤ j)
abbrev tGt : TE → TE → TE := tCmp fun i j => decide (j < i)
abbrev tGe : TE → TE → TE := tCmp fun i j => decide (j ≤ i)
abbrev tEqI : TE → TE → TE := tCmp fun i j => decide (i = j)
abbrev tNeI : TE → TE → TE := tCmp fun i j => !decide (i = j)
/-- a comparison of two ints, by its rule -/
theorem pc_int {op : CmpOp} {p : Int → Int → Bool} (ha : PE X a ta) (hb : PE X b tb)
    (rule : ∀ (i j : Int) (t u : Tok) (Q : Value → Shared → Prop) (s : Shared), Q (.bool (p i j)) s → wpAny (model X.prog X.w) X.A (compareOp op (.int i t) (.int j u)) Q X.xe s) : PC X op a b (tCmp p ta tb) := by
  intro pins s σ H Q I h
  refine bin ha hb I h fun v u s2 x y H2 I2 rx ry q => ?_
  obtain ⟨i, j, rfl, rfl, q⟩ := q
  obtain ⟨t, rfl⟩ := rx
  obtain ⟨t', rfl⟩ := ry
  exact rule i j t t' _ s2 ⟨.bl _, H2, I2, rfl, q⟩
theorem pc_lt (ha : PE X a ta) (hb : PE X b tb) : PC X .Lt a b (tLt ta tb) := pc_int ha hb fun _ _ _ _ _ _ h => lt_int h
theorem pc_le (ha : PE X a ta) (hb : PE X b tb) : PC X .LtE a b (tLe ta tb) := pc_int ha hb fun _ _ _ _ _ _ h => le_int h
theorem pc_gt (ha : PE X a ta) (hb : PE X b tb) : PC X .Gt a b (tGt ta tb) := pc_int ha hb fun _ _ _ _ _ _ h => gt_int h
theorem pc_ge (ha : PE X a ta) (hb : PE X b tb) : PC X .GtE a b (tGe ta tb) := pc_int ha hb fun _ _ _ _ _ _ h => ge_int h
theorem pc_eqI (ha : PE X a ta) (hb : PE X b tb) : PC X .Eq a b (tEqI ta tb) := pc_int ha hb fun _ _ _ _ _ _ h => eq_int (by rw [Bool.beq_eq_decide_eq]; exact h)
theorem pc_neI (ha : PE X a ta) (hb : PE X b tb) : PC X .NotEq a b (tNeI ta tb) := pc_int ha hb fun _ _ _ _ _ _ h => ne_int (by rw [bne, Bool.beq_eq_decide_eq]; exact h)
/-- is None -/
def tIsN (ta : TE) : TE := fun σ H Q => ta σ H fun x H1 => Q (.bl (decide (x = .non))) H1
def tNotN (ta : TE) : TE := fun σ H Q => ta σ H fun x H1 => Q (.bl (!decide (x = .non))) H1
theorem RelV.none_iff {x : V} {v : Value} (r : RelV x v) : (v == Value.none) = decide (x = .non) := by
  cases x with
  | non => cases r; rfl
  | bl _ => cases r; rfl
  | int _ => obtain ⟨t, rfl⟩ := r; rfl
  | str _ => obtain ⟨t, rfl⟩ := r; rfl
  | byt _ => obtain ⟨t, rfl⟩ := r; rfl
  | flt _ => obtain ⟨t, rfl⟩ := r; rfl
  | ref _ => cases r; rfl
  | ty _ => cases r; rfl
theorem pc_isN {j pos'} (ha : PE X a ta) : PC X .Is a (.Constant .none j pos') (tIsN ta) := by
  intro pins s σ H Q I h
  refine thn (ha pins s σ H _ I h) fun v s1 ⟨x, H1, I1, r1, q1⟩ => ?_
  exact Constant_none (is_none_gen ⟨.bl _, H1, I1, by rw [r1.none_iff]; rfl, q1⟩)
theorem pc_notN {j pos'} (ha : PE X a ta) : PC X .IsNot a (.Constant .none j pos') (tNotN ta) := by
  intro pins s σ H Q I h
  refine thn (ha pins s σ H _ I h) fun v s1 ⟨x, H1, I1, r1, q1⟩ => ?_
  exact Constant_none (isnot_none_gen ⟨.bl _, H1, I1, by rw [r1.none_iff]; rfl, q1⟩)
/-- a comparison as a value, as a test -/
def tB (t : TE) : TT := fun σ H Q => t σ H fun x H1 => ∃ c, x = .bl c ∧ Q c H1
theorem pe_cmp {op : CmpOp} {t : TE} (h : PC X op a b t) (h1 : behindInMarks op b = false := by first | exact nobehind _ (by decide) (by decide) | rfl) : PE X (.Compare a [op] [b] pos) t := fun pins s σ H Q I hw => wpAny_Compare1 (h pins s σ H Q I hw) h1
theorem pt_cmp {op : CmpOp} {t : TE} (h : PC X op a b t) (h1 : behindInMarks op b = false := by first | exact nobehind _ (by decide) (by decide) | rfl) : PT X (.Compare a [op] [b] pos) (tB t) := by
  intro pins s σ H Q I hw
  refine wpAny_isTrue_Compare1 (thn (h pins s σ H _ I hw) fun v s1 h1 => thn h1 fun u s2 h2 => thn h2 fun c s3 ⟨x, H1, I1, r1, q1⟩ => ?_) h1
  obtain ⟨d, rfl, q⟩ := q1
  cases r1
  exact wpAny_truthy_bool ⟨H1, I1, q⟩
/-- an expression whose value is a bool, as a test -/
theorem pt_val {e : Expr} {t : TE} (h : PE X e t) (he : ∀ whole, isTrue e X.env whole = (do let v ← whole; standAt e.pos; holding [v] (truthy v)) := by intro _; rfl) : PT X e (tB t) := by
  intro pins s σ H Q I hw
  refine isTrue_plain (thn (h pins s σ H _ I hw) fun v s1 ⟨x, H1, I1, r1, q1⟩ => ?_) (he _)
  obtain ⟨d, rfl, q⟩ := q1
  cases r1
  exact wpAny_truthy_bool ⟨H1, I1, q⟩

/-! ### and, or, not -/
variable {tA tB' : TT} {rest : List Expr}
def tAnd (t u : TT) : TT := fun σ H Q => t σ H fun c H1 => if c = true then u σ H1 Q else Q false H1
def tOr (t u : TT) : TT := fun σ H Q => t σ H fun c H1 => if c = true then Q true H1 else u σ H1 Q
def tNot (t : TT) : TT := fun σ H Q => t σ H fun c H1 => Q (!c) H1
theorem pw_and1 (ha : PT X a tA) : PW X (.BoolOp .And [a] pos) tA := by
  intro wh pins s σ H Q I h
  refine isTrue_and (thn (ha pins s σ H Q I h) fun c s1 e => ?_)
  cases c with
  | true => exact isTrue_and_nil e
  | false => exact e
theorem pw_or1 (ha : PT X a tA) : PW X (.BoolOp .Or [a] pos) tA := by
  intro wh pins s σ H Q I h
  refine isTrue_or (thn (ha pins s σ H Q I h) fun c s1 e => ?_)
  cases c with
  | false => exact isTrue_or_nil e
  | true => exact e
theorem pw_and (ha : PT X a tA) (hb : PW X (.BoolOp .And (b :: rest) pos) tB') : PW X (.BoolOp .And (a :: b :: rest) pos) (tAnd tA tB') := by
  intro wh pins s σ H Q I h
  refine isTrue_and (thn (ha pins s σ H _ I h) fun c s1 ⟨H1, I1, q1⟩ => ?_)
  cases c with
  | true => exact hb wh pins s1 σ H1 Q I1 q1
  | false => exact ⟨H1, I1, q1⟩
theorem pw_or (ha : PT X a tA) (hb : PW X (.BoolOp .Or (b :: rest) pos) tB') : PW X (.BoolOp .Or (a :: b :: rest) pos) (tOr tA tB') := by
  intro wh pins s σ H Q I h
  refine isTrue_or (thn (ha pins s σ H _ I h) fun c s1 ⟨H1, I1, q1⟩ => ?_)
  cases c with
  | true => exact ⟨H1, I1, q1⟩
  | false => exact hb wh pins s1 σ H1 Q I1 q1
theorem pt_not (ha : PT X a tA) : PT X (.UnaryOp .Not a pos) (tNot tA) := by
  intro pins s σ H Q I h
  exact isTrue_not (ha pins s σ H (fun c H1 => Q (!c) H1) I h)
/-- .. as values (bools) -/
def tAndV (ta tb : TE) : TE := fun σ H Q => ta σ H fun x H1 => ∃ c, x = .bl c ∧ if c = true then tb σ H1 Q else Q (.bl false) H1
def tOrV (ta tb : TE) : TE := fun σ H Q => ta σ H fun x H1 => ∃ c, x = .bl c ∧ if c = true then Q (.bl true) H1 else tb σ H1 Q
def tNotV (ta : TE) : TE := fun σ H Q => ta σ H fun x H1 => ∃ c, x = .bl c ∧ Q (.bl (!c)) H1
theorem pe_one {op} {t : TE} (h : PE X a t) : PE X (.BoolOp op [a] pos) t := fun pins s σ H Q I hw => BoolOp_one (h pins s σ H Q I hw)
theorem pe_and (ha : PE X a ta) (hb : PE X (.BoolOp .And (b :: rest) pos) tb) : PE X (.BoolOp .And (a :: b :: rest) pos) (tAndV ta tb) := by
  intro pins s σ H Q I h
  refine BoolOp_and (thn (ha pins s σ H _ I h) fun v s1 ⟨x, H1, I1, r1, q1⟩ => ?_)
  obtain ⟨c, rfl, q1⟩ := q1
  cases r1
  refine wpAny_truthy_bool ?_
  cases c with
  | true => exact hb pins s1 σ H1 Q I1 q1
  | false => exact ⟨.bl false, H1, I1, rfl, q1⟩
theorem pe_or (ha : PE X a ta) (hb : PE X (.BoolOp .Or (b :: rest) pos) tb) : PE X (.BoolOp .Or (a :: b :: rest) pos) (tOrV ta tb) := by
  intro pins s σ H Q I h
  refine BoolOp_or (thn (ha pins s σ H _ I h) fun v s1 ⟨x, H1, I1, r1, q1⟩ => ?_)
  obtain ⟨c, rfl, q1⟩ := q1
  cases r1
  refine wpAny_truthy_bool ?_
  cases c with
  | false => exact hb pins s1 σ H1 Q I1 q1
  | true => exact ⟨.bl true, H1, I1, rfl, q1⟩
theorem pe_not (ha : PE X a ta) : PE X (.UnaryOp .Not a pos) (tNotV ta) := by
  intro pins s σ H Q I h
  refine UnaryOp_ (thn (ha pins s σ H _ I h) fun v s1 ⟨x, H1, I1, r1, q1⟩ => ?_)
  obtain ⟨c, rfl, q1⟩ := q1
  cases r1
  exact not_of (wpAny_truthy_bool ⟨.bl (!c), H1, I1, rfl, q1⟩)
/-- a if t else b -/
def tIf (t : TT) (ta tb : TE) : TE := fun σ H Q => t σ H fun c H1 => if c = true then ta σ H1 Q else tb σ H1 Q
theorem pe_ifExp {c : Expr} (hc : PT X c tA) (ha : PE X a ta) (hb : PE X b tb) : PE X (.IfExp c a b pos) (tIf tA ta tb) := by
  intro pins s σ H Q I h
  refine wpAny_IfExp (thn (hc pins s σ H _ I h) fun d s1 ⟨H1, I1, q1⟩ => ?_)
  cases d with
  | true => exact ha pins s1 σ H1 Q I1 q1
  | false => exact hb pins s1 σ H1 Q I1 q1
end
end L2

namespace L2
open PySem PySem.Spec PyProof.Rows

/-! ### a list, a tuple that is read: tracked, frozen, or an object of the module -/
def SqL (K : PySem.W.Frag) (H : Hp) (a : Addr) (xs : List V) : Prop :=
  Rd H a (.lst xs) ∨
    ∃ (o : Obj) (its : Array Value) (n : Nat), K.lookup a = some o ∧ o.cls = .type "list" ∧ o.dict = none ∧ o.data = .seq its n ∧ its.size ≤ sizeLine ∧ Vals xs its.toList
def SqT (K : PySem.W.Frag) (H : Hp) (a : Addr) (xs : List V) : Prop :=
  Rd H a (.tup xs) ∨
    ∃ (o : Obj) (its : Array Value) (n : Nat), K.lookup a = some o ∧ o.cls = .type "tuple" ∧ o.data = .seq its n ∧ its.size ≤ sizeLine ∧ Vals xs its.toList
def absV : Value → Option V
  | .none => some .non
  | .bool b => some (.bl b)
  | .int i _ => some (.int i)
  | .str x _ => some (.str x)
  | .bytes b _ => some (.byt b)
  | .float b _ => some (.flt b)
  | .ref a => some (.ref a)
  | .type n => some (.ty n)
  | _ => none
theorem RelV.abs {x : V} {u : Value} (r : RelV x u) : absV u = some x := by
  cases x with
  | non => cases r; rfl
  | bl _ => cases r; rfl
  | int _ => obtain ⟨t, rfl⟩ := r; rfl
  | str _ => obtain ⟨t, rfl⟩ := r; rfl
  | byt _ => obtain ⟨t, rfl⟩ := r; rfl
  | flt _ => obtain ⟨t, rfl⟩ := r; rfl
  | ref _ => cases r; rfl
  | ty _ => cases r; rfl
theorem RelV.inj {x y : V} {u : Value} (r : RelV x u) (q : RelV y u) : x = y := Option.some.inj (r.abs.symm.trans q.abs)
theorem Vals.inj : ∀ {xs ys : List V} {us : List Value}, Vals xs us → Vals ys us → xs = ys
  | _, _, _, .nil, .nil => rfl
  | _, _, _, .cons r t, .cons r' t' => by rw [r.inj r', Vals.inj t t']
section
variable {X : Cx} {pins : List (Addr × Obj)} {σ : St} {H : Hp} {s : Shared} {a : Addr} {xs ys : List V}
theorem SqL.of {K : PySem.W.Frag} (h : H a = some (.lst xs)) : SqL K H a xs := .inl (.inl h)
theorem SqT.of {K : PySem.W.Frag} (h : H a = some (.tup xs)) : SqT K H a xs := .inl (.inl h)
theorem Inv.list (I : Inv X pins σ H s) (h : SqL X.K H a xs) : ∃ its : List Value, Vals xs its ∧ PlainL s.heap a its.toArray ∧ xs.length ≤ sizeLine := by
  rcases h with h | ⟨o, its, n, hk, hc, hd, hs, hz, r⟩
  · obtain ⟨z, its, n, r, e⟩ := h.ok I.hok
    exact ⟨its, r, ⟨_, n, e, rfl, rfl, rfl⟩, z⟩
  · refine ⟨its.toList, r, ⟨o, n, I.kIn a o hk, hc, hd, by simpa using hs⟩, ?_⟩
    have e := r.length
    simp only [Array.length_toList] at e
    omega
theorem Inv.tuple (I : Inv X pins σ H s) (h : SqT X.K H a xs) : ∃ its : List Value, Vals xs its ∧ IsTup s.heap a its.toArray ∧ xs.length ≤ sizeLine := by
  rcases h with h | ⟨o, its, n, hk, hc, hs, hz, r⟩
  · obtain ⟨z, its, r, p⟩ := h.ok I.hok
    exact ⟨its, r, p, z⟩
  · refine ⟨its.toList, r, ⟨o, I.kIn a o hk, hc, n, by simpa using hs⟩, ?_⟩
    have e := r.length
    simp only [Array.length_toList] at e
    omega
theorem Inv.list_inj (I : Inv X pins σ H s) (h : SqL X.K H a xs) (h' : SqL X.K H a ys) : xs = ys := by
  obtain ⟨its, r, ⟨o, n, e, _, _, d⟩, _⟩ := I.list h
  obtain ⟨its', r', ⟨o', n', e', _, _, d'⟩, _⟩ := I.list h'
  rw [e] at e'; cases e'
  rw [d] at d'
  injection d' with d1 _
  have : its = its' := by simpa using congrArg Array.toList d1
  subst this
  exact r.inj r'
theorem Inv.tuple_inj (I : Inv X pins σ H s) (h : SqT X.K H a xs) (h' : SqT X.K H a ys) : xs = ys := by
  obtain ⟨its, r, ⟨o, e, _, n, d⟩, _⟩ := I.tuple h
  obtain ⟨its', r', ⟨o', e', _, n', d'⟩, _⟩ := I.tuple h'
  rw [e] at e'; cases e'
  rw [d] at d'
  injection d' with d1 _
  have : its = its' := by simpa using congrArg Array.toList d1
  subst this
  exact r.inj r'
end

/-! ### another wish about exceptions -/
abbrev Cx.wish (X : Cx) (E : Value → Shared → Prop) : Cx := { X with xe := E }
/-- no exception leaves -/
abbrev Cx.nox (X : Cx) : Cx := X.wish fun _ _ => False
theorem Cx.Ok.wish {X : Cx} (ok : X.Ok) (E : Value → Shared → Prop) : (X.wish E).Ok :=
  ⟨ok.mod, ok.kind, ok.glob, ok.blt, ok.above, ok.inj, ok.has, ok.cab, ok.hd, ok.frames, ok.stk, ok.exf, ok.bs, ok.bsz, ok.noex, ok.exfs, ok.funs, ok.frf⟩
theorem Cx.Ok.unwish {X : Cx} {E : Value → Shared → Prop} (ok : (X.wish E).Ok) : X.Ok :=
  ⟨ok.mod, ok.kind, ok.glob, ok.blt, ok.above, ok.inj, ok.has, ok.cab, ok.hd, ok.frames, ok.stk, ok.exf, ok.bs, ok.bsz, ok.noex, ok.exfs, ok.funs, ok.frf⟩
section
variable {X : Cx} {pins : List (Addr × Obj)} {σ : St} {H : Hp} {s : Shared} {E : Value → Shared → Prop}
theorem Inv.wish (I : Inv X pins σ H s) (E : Value → Shared → Prop) : Inv (X.wish E) pins σ H s := ⟨I.ok.wish E, I.os, I.bare, I.base, I.loc, I.cell, I.free, I.freeC, I.pin, I.hok, I.len⟩
theorem Inv.unwish (I : Inv (X.wish E) pins σ H s) : Inv X pins σ H s := ⟨I.ok.unwish, I.os, I.bare, I.base, I.loc, I.cell, I.free, I.freeC, I.pin, I.hok, I.len⟩
theorem SP.unwish {D : Ends} {f : Flow} {s' : Shared} (h : SP (X.wish E) pins D f s') : SP X pins D f s' := by
  cases f with
  | next => obtain ⟨σ', H', I, q⟩ := h; exact ⟨σ', H', I.unwish, q⟩
  | brk => obtain ⟨σ', H', I, q⟩ := h; exact ⟨σ', H', I.unwish, q⟩
  | cont => obtain ⟨σ', H', I, q⟩ := h; exact ⟨σ', H', I.unwish, q⟩
  | ret u => obtain ⟨v, σ', H', I, r, q⟩ := h; exact ⟨v, σ', H', I.unwish, r, q⟩
theorem PE.nox {e : Expr} {t : TE} (h : PE X.nox e t) : PE X e t := fun pins s σ H Q I hw =>
  wpAny_mono (h pins s σ H Q (I.wish _) hw) (fun _ _ ⟨v, H', I', r, q⟩ => ⟨v, H', I'.unwish, r, q⟩) fun _ _ z => False.elim z
theorem PT.nox {e : Expr} {t : TT} (h : PT X.nox e t) : PT X e t := fun pins s σ H Q I hw =>
  wpAny_mono (h pins s σ H Q (I.wish _) hw) (fun _ _ ⟨H', I', q⟩ => ⟨H', I'.unwish, q⟩) fun _ _ z => False.elim z
theorem PSs.nox {st : List Stmt} {t : TS} (h : PSs X.nox st t) : PSs X st t := fun pins s σ H D I hw =>
  wpAny_mono (h pins s σ H D (I.wish _) hw) (fun _ _ q => q.unwish) fun _ _ z => False.elim z
end

/-! ### blocks and small statements -/
section
variable {X : Cx} {st : Stmt} {rest : List Stmt} {t u : TS} {e : Expr} {te : TE} {pos : Pos}
def tNext : TS := fun D σ H => D.nx σ H
def tSeq (t u : TS) : TS := fun D σ H => t { D with nx := u D } σ H
theorem pss_nil : PSs X [] tNext := fun _ _ σ H _ I h => wpAny_execs_nil ⟨σ, H, I, h⟩
theorem pss_cons (h1 : PS X st t) (h2 : PSs X rest u) : PSs X (st :: rest) (tSeq t u) := by
  intro pins s σ H D I h
  refine wpAny_execs_cons (thn (h1 pins s σ H { D with nx := u D } I h) fun f s1 q => ?_)
  cases f with
  | next =>
    obtain ⟨σ', H', I', q⟩ := q
    exact h2 pins s1 σ' H' D I' q
  | ret v => exact q
  | brk => exact q
  | cont => exact q
theorem pss_one (h1 : PS X st t) : PSs X [st] t := by
  intro pins s σ H D I h
  refine wpAny_execs_cons (thn (h1 pins s σ H D I h) fun f s1 q => ?_)
  cases f with
  | next => exact wpAny_execs_nil q
  | ret v => exact q
  | brk => exact q
  | cont => exact q
def tBreak : TS := fun D σ H => D.bk σ H
def tCont : TS := fun D σ H => D.ct σ H
theorem ps_pass : PS X (.Pass pos) tNext := fun _ _ σ H _ I h => wpAny_Pass ⟨σ, H, I, h⟩
theorem ps_break : PS X (.Break pos) tBreak := fun _ _ σ H _ I h => wpAny_Break ⟨σ, H, I, h⟩
theorem ps_continue : PS X (.Continue pos) tCont := fun _ _ σ H _ I h => wpAny_Continue ⟨σ, H, I, h⟩
/-- in a def's body nothing is shown -/
theorem Inv.quiet {pins : List (Addr × Obj)} {σ : St} {H : Hp} {s : Shared} (I : Inv X pins σ H s) : interactive X.env = false := by simp [interactive, I.ok.kind]
/-- a docstring -/
theorem ps_doc {x j pos pos'} : PS X (.Expr (.Constant (.str x) j pos) pos') tNext := fun _ s σ H _ I h => wpAny_Expr (Calls.Constant_str (show SP X _ _ .next { s with toks := s.toks + 1 } from ⟨σ, H, I.tok _, h⟩)) I.quiet
/-- an expression whose value is dropped -/
def tDrop (te : TE) : TS := fun D σ H => te σ H fun _ H1 => D.nx σ H1
theorem ps_expr (he : PE X e te) (hs : swapsWith e none pos.line X.env = pure false := by rfl) : PS X (.Expr e pos) (tDrop te) := by
  intro pins s σ H D I h
  exact wpAny_Expr_any (thn (he pins s σ H _ I h) fun v s1 ⟨x, H1, I1, r1, q1⟩ => ⟨σ, H1, I1, q1⟩) I.quiet hs
def tRet (te : TE) : TS := fun D σ H => te σ H D.rt
theorem ps_ret (he : PE X e te) : PS X (.Return (some e) pos) (tRet te) := by
  intro pins s σ H D I h
  exact wpAny_Return_some (thn (he pins s σ H _ I h) fun v s1 ⟨x, H1, I1, r1, q1⟩ => ⟨x, σ, H1, I1, r1, q1⟩)
def tRetN : TS := fun D _ H => D.rt .non H
theorem ps_retN : PS X (.Return none pos) tRetN := fun _ _ σ H _ I h => wpAny_Return_none ⟨.non, σ, H, I, rfl, h⟩
def tIfS (c : TT) (t u : TS) : TS := fun D σ H => c σ H fun b H1 => if b = true then t D σ H1 else u D σ H1
theorem ps_if {c : Expr} {a b : List Stmt} {tc : TT} (hc : PT X c tc) (ha : PSs X a t) (hb : PSs X b u) : PS X (.If c a b pos) (tIfS tc t u) := by
  intro pins s σ H D I h
  refine wpAny_If (thn (hc pins s σ H _ I h) fun d s1 ⟨H1, I1, q1⟩ => ?_)
  cases d with
  | true => exact ha pins s1 σ H1 D I1 q1
  | false => exact hb pins s1 σ H1 D I1 q1
/-- code that the proof never comes to -/
def tNever : TS := fun _ _ _ => False
theorem ps_never : PS X st tNever := fun _ _ _ _ _ _ h => h.elim
theorem pss_never {sts : List Stmt} : PSs X sts tNever := fun _ _ _ _ _ _ h => h.elim
end

/-! ### targets -/
abbrev TG := V → St → Hp → (St → Hp → Prop) → Prop
abbrev TGs := List V → St → Hp → (St → Hp → Prop) → Prop
def PG (X : Cx) (target : Expr) (t : TG) : Prop :=
  ∀ (pins : List (Addr × Obj)) (s : Shared) (σ : St) (H : Hp) (v : V) (u : Value) (Q : St → Hp → Prop), Inv X pins σ H s → RelV v u → t v σ H Q →
    wpAny (model X.prog X.w) X.A (assign target X.env u) (fun _ s' => ∃ σ' H', Inv X pins σ' H' s' ∧ Q σ' H') X.xe s
/-- several targets, one after another -/
def PGs (X : Cx) (ts : List Expr) (t : TGs) : Prop :=
  ∀ (pins : List (Addr × Obj)) (s : Shared) (σ : St) (H : Hp) (vs : List V) (us : List Value) (Q : St → Hp → Prop), Inv X pins σ H s → Vals vs us → t vs σ H Q →
    wpAny (model X.prog X.w) X.A (assignInOrder ((assignEach ts X.env).map (·.2)) us) (fun _ s' => ∃ σ' H', Inv X pins σ' H' s' ∧ Q σ' H') X.xe s
/-- o[i] = v, by values -/
abbrev TSet := V → V → V → Hp → (Hp → Prop) → Prop
def PSet (X : Cx) (t : TSet) : Prop :=
  ∀ (pins : List (Addr × Obj)) (s : Shared) (σ : St) (H : Hp) (o i v : V) (ov iv u : Value) (Q : Hp → Prop), Inv X pins σ H s → RelV o ov → RelV i iv → RelV v u → t o i v H Q →
    wpAny (model X.prog X.w) X.A (setItem ov iv u) (fun _ s' => ∃ H', Inv X pins σ H' s' ∧ Q H') X.xe s
/-- a op= b, by values -/
abbrev TIp := V → V → Hp → VK → Prop
def PIp (X : Cx) (op : Operator) (t : TIp) : Prop :=
  ∀ (pins : List (Addr × Obj)) (s : Shared) (σ : St) (H : Hp) (x y : V) (v u : Value) (Q : VK), Inv X pins σ H s → RelV x v → RelV y u → t x y H Q →
    wpAny (model X.prog X.w) X.A (inplaceOp op v u) (EP X pins σ Q) X.xe s
section
variable {X : Cx} {pos : Pos}
def gName (i : Nat) : TG := fun v σ H Q => Q (σ.set i (some v)) H
theorem pg_name {i : Nat} {x : Str} (hN : X.N.Nodup) (hi : X.N[i]? = some x) (hx : Loc X.env.scope x) (hf : X.fn x = true ∨ X.env.scope.names.lookup x = some .local := by first | exact .inl rfl | exact .inr rfl | assumption) : PG X (.Name x pos) (gName i) := by
  intro pins s σ H v u Q I r h
  exact wpAny_assign_Name (store_ok I hN hi hx r (fun s' I' => ⟨_, H, I', h⟩) hf)
def gNil : TGs := fun vs σ H Q => vs = [] ∧ Q σ H
def gCons (t : TG) (u : TGs) : TGs := fun vs σ H Q => ∃ v r, vs = v :: r ∧ t v σ H fun σ' H' => u r σ' H' Q
theorem pgs_nil : PGs X [] gNil := by
  intro pins s σ H vs us Q I r h
  obtain ⟨e, h⟩ := h
  subst e
  cases r
  exact assignInOrder_nil ⟨σ, H, I, h⟩
theorem pgs_cons {e : Expr} {es : List Expr} {t : TG} {u : TGs} (h1 : PG X e t) (h2 : PGs X es u)
    (hs : (assignEach (e :: es) X.env).map (·.2) = assign e X.env :: (assignEach es X.env).map (·.2) := by rfl) : PGs X (e :: es) (gCons t u) := by
  intro pins s σ H vs us Q I r h
  obtain ⟨v, vr, e1, h⟩ := h
  subst e1
  cases r with
  | cons r rr =>
    rw [hs]
    refine assignInOrder_cons (thn (h1 pins s σ H _ _ _ I r h) fun _ s1 ⟨σ1, H1, I1, q1⟩ => ?_)
    exact h2 pins s1 σ1 H1 _ _ Q I1 rr q1
/-- (a, b, ..) = a tuple of that length -/
def gTup (K : PySem.W.Frag) (n : Nat) (t : TGs) : TG := fun v σ H Q => ∃ a xs, v = .ref a ∧ SqT K H a xs ∧ xs.length = n ∧ t xs σ H Q
theorem pg_tup {es : List Expr} {k : Nat} {t : TGs} {n : Nat} (hc : X.calm = true) (h : PGs X es t)
    (hn : (assignEach es X.env).length = n := by rfl) (hst : (assignEach es X.env).findIdx? (·.1) = none := by rfl) : PG X (.Tuple es k pos) (gTup X.K n t) := by
  intro pins s σ H v u Q I r hw
  obtain ⟨a, xs, e1, hq, hl, hw⟩ := hw
  subst e1
  cases r
  obtain ⟨its, rv, ht, hz⟩ := I.tuple hq
  refine assign_Tuple_tuple (I.ok.hd hc) ht (by simp [hn, ← hl, rv.length]) hst fun h' hx => ?_
  have I1 : Inv X pins σ H { s with heap := h' } := I.kept (t' := s.toks) fun b o e => hx b o (Nat.ne_of_lt (Heap.lt_size e)) e
  exact h pins _ σ H xs _ Q I1 (by simpa using rv) hw
/-- o[i] = .. -/
def gSub (to ti : TE) (t : TSet) : TG := fun v σ H Q => to σ H fun o H1 => ti σ H1 fun i H2 => t o i v H2 fun H3 => Q σ H3
theorem pg_sub {o i : Expr} {to ti : TE} {t : TSet} (ho : PE X o to) (hi : PE X i ti) (hs : PSet X t)
    (ha : ∀ v, assign (.Subscript o i pos) X.env v = (do
      let ov ← holding [v] (eval o X.env)
      let iv ← holding [v, ov] (eval i X.env)
      standAt pos
      holding [v, ov, iv] (setItem ov iv v)
      release [v, ov, iv] []) := by intro _; rfl) : PG X (.Subscript o i pos) (gSub to ti t) := by
  intro pins s σ H v u Q I r h
  rw [ha]
  refine wpAny_bind (wpAny_holding (thn (ho pins s σ H _ I h) fun ov s1 ⟨x, H1, I1, r1, q1⟩ => ?_))
  refine wpAny_bind (wpAny_holding (thn (hi pins s1 σ H1 _ I1 q1) fun iv s2 ⟨y, H2, I2, r2, q2⟩ => ?_))
  refine wpAny_bind (wpAny_standAt (wpAny_bind (wpAny_holding (thn (hs pins s2 σ H2 x y v ov iv u _ I2 r1 r2 r q2) fun _ s3 ⟨H3, I3, q3⟩ => ?_))))
  exact wpAny_release ⟨σ, H3, I3, q3⟩
/-- target = value -/
def tAsg (te : TE) (g : TG) : TS := fun D σ H => te σ H fun x H1 => g x σ H1 D.nx
theorem ps_asg {tg e : Expr} {te : TE} {g : TG} (he : PE X e te) (hg : PG X tg g) (hs : swapsWithSole [tg] e pos.line X.env = pure false := by rfl) (hw : swappedStores [tg] e X.env = pure none := by rfl)
    (h1 : (assignEach [tg] X.env).map (·.2) = [assign tg X.env] := by rfl) : PS X (.Assign [tg] e pos) (tAsg te g) := by
  intro pins s σ H D I h
  refine wpAny_Assign_stores (thn (he pins s σ H _ I h) fun v s1 ⟨x, H1, I1, r1, q1⟩ => ?_) hs hw
  rw [h1]
  exact thn (hg pins s1 σ H1 x v _ I1 r1 q1) fun _ s2 q => q
/-- name = value -/
theorem ps_set {i : Nat} {x : Str} {e : Expr} {te : TE} {pos' : Pos} (hN : X.N.Nodup) (hi : X.N[i]? = some x) (hx : Loc X.env.scope x) (he : PE X e te) (hs : swapsWith e (some (.Name x pos')) pos.line X.env = pure false := by rfl) (hf : X.fn x = true ∨ X.env.scope.names.lookup x = some .local := by first | exact .inl rfl | exact .inr rfl | assumption) :
    PS X (.Assign [.Name x pos'] e pos) (tAsg te (gName i)) := by
  intro pins s σ H D I h
  refine wpAny_Assign_Name (thn (he pins s σ H _ I h) fun v s1 ⟨y, H1, I1, r1, q1⟩ => ?_) hs
  exact store_ok I1 hN hi hx r1 (fun s2 I2 => ⟨_, H1, I2, q1⟩) hf
/-- a, b = x, y with plain local names: stored from the right; the pair itself is not tracked (the opening rows as in PyProof/Rows/TupAssign.lean:23) -/
def tPar (i j : Nat) (ta : TA) : TS := fun D σ H => ta σ H fun vs H1 => ∃ v w, vs = [v, w] ∧ D.nx ((σ.set i (some v)).set j (some w)) H1
theorem ps_par {i j : Nat} {x y : Str} {a b : Expr} {ta : TA} {px py pt : Pos} {kt k2 pt2} (hc : X.calm = true) (hN : X.N.Nodup) (hi : X.N[i]? = some x) (hj : X.N[j]? = some y) (hij : i ≠ j)
    (hx : X.env.scope.names.lookup x = some .local) (hy : X.env.scope.names.lookup y = some .local) (ha : PA X [a, b] ta)
    (hw : swappedStores [.Tuple [.Name x px, .Name y py] kt pt] (.Tuple [a, b] k2 pt2) X.env = pure (some [x, y]))
    (hs : swapsWithSole [.Tuple [.Name x px, .Name y py] kt pt] (.Tuple [a, b] k2 pt2) pos.line X.env = pure false := by rfl) :
    PS X (.Assign [.Tuple [.Name x px, .Name y py] kt pt] (.Tuple [a, b] k2 pt2) pos) (tPar i j ta) := by
  intro pins s σ H D I h
  rw [exec_Assign_arm]
  refine wpAny_bind (wpAny_standAt ?_)
  rw [hs]
  refine wpAny_bind (wpAny_pure ?_)
  rw [if_neg (by decide)]
  refine wpAny_bind (Tuple_ (thn (ha _ pins s σ H _ I h) fun us s1 ⟨vs, H1, I1, r1, q1⟩ => ?_))
  obtain ⟨v, w, e1, q1⟩ := q1
  subst e1
  obtain ⟨u1, u2, rfl, rv, rw'⟩ : ∃ u1 u2, us = [u1, u2] ∧ RelV v u1 ∧ RelV w u2 := by
    cases r1 with
    | cons p q =>
      cases q with
      | cons p' q' =>
        cases q'
        exact ⟨_, _, rfl, p, p'⟩
  refine wpAny_newObj_type ?_ (by show 2 ≤ sizeLine; decide)
  have I2 : Inv X pins σ H1 { s1 with heap := s1.heap.push { cls := .type "tuple", data := .seq [u1, u2].toArray } } := I1.kept (t' := s1.toks) fun b o e => Heap.get?_push_of_some _ e
  rw [hw]
  refine wpAny_bind (wpAny_pure ?_)
  show wpAny (model X.prog X.w) X.A (do rule "assign.swapped-stores"; let items ← unpackItems (.ref s1.heap.objs.size) 2 none; assignInOrder [fun v => bindName X.env y v, fun v => bindName X.env x v] items.reverse; pure Flow.next) _ _ _
  refine wpAny_bind (wpAny_rule (wpAny_bind (unpackItems_tuple (items := #[u1, u2]) (I.ok.hd hc) (IsTup.new s1.heap _) fun h' hx' => ?_)))
  have I3 := I2.kept (h' := h') (t' := s1.toks) fun b o e => hx' b o (Nat.ne_of_lt (Heap.lt_size e)) e
  show wpAny _ _ (assignInOrder [fun v => bindName X.env y v, fun v => bindName X.env x v] [u2, u1] >>= fun _ => pure Flow.next) _ _ _
  refine wpAny_bind (assignInOrder_cons (wpAny_bindName (store_ok I3 hN hj (.inl hy) rw' (fun s2 I4 => ?_) (.inr hy))))
  refine assignInOrder_cons (wpAny_bindName (store_ok I4 hN hi (.inl hx) rv (fun s3 I5 => assignInOrder_nil (wpAny_pure ?_)) (.inr hx)))
  rw [List.set_comm _ _ (Ne.symm hij)] at I5
  exact ⟨_, H1, I5, q1⟩
/-- name op= e -/
def tAug (i : Nat) (te : TE) (ti : TIp) : TS := fun D σ H => ∃ x, σ[i]? = some (some x) ∧ te σ H fun y H1 => ti x y H1 fun z H2 => D.nx (σ.set i (some z)) H2
theorem ps_aug {i : Nat} {x : Str} {e : Expr} {te : TE} {op : Operator} {ti : TIp} {pos' : Pos} (hN : X.N.Nodup) (hi : X.N[i]? = some x) (hx : Loc X.env.scope x) (he : PE X e te) (ho : PIp X op ti) (hf : X.fn x = true ∨ X.env.scope.names.lookup x = some .local := by first | exact .inl rfl | exact .inr rfl | assumption) :
    PS X (.AugAssign (.Name x pos') op e pos) (tAug i te ti) := by
  intro pins s σ H D I h
  obtain ⟨v, e1, h⟩ := h
  obtain ⟨m, hn, hl⟩ := I.loc
  have vis : Vis X.env.scope x := by rcases hx with k | k; exact .inl k; exact .inr (.inl k)
  obtain ⟨u, r, l⟩ := hl i x v hi e1 vis
  refine wpAny_AugAssign_Name ?_
  have go : wpAny (model X.prog X.w) X.A (eval e X.env) (fun w s₂ => wpAny (model X.prog X.w) X.A (inplaceOp op u w) (fun r s₃ => wpAny (model X.prog X.w) X.A (storeName X.env x r) (fun _ => SP X pins D .next) X.xe s₃) X.xe s₂) X.xe s := by
    refine thn (he pins s σ H _ I h) fun w s1 ⟨y, H1, I1, r1, q1⟩ => ?_
    refine thn (ho pins s1 σ H1 v y u w _ I1 r r1 q1) fun z s2 ⟨zv, H2, I2, r2, q2⟩ => ?_
    exact store_ok I2 hN hi hx r2 (fun s3 I3 => ⟨_, H2, I3, q2⟩) hf
  rcases l with ⟨hk, hm⟩ | ⟨hk, c, hc, hcell⟩
  · exact wpAny_loadName_local I.ok.kind hk hn hm go
  · rcases hk with hk | hk
    · exact wpAny_loadName_cell I.ok.kind hk hc hcell go
    · rcases hx with k | k
      · have : X.env.scope.names.lookup x = some .free := hk
        rw [k] at this; cases this
      · have : X.env.scope.names.lookup x = some .free := hk
        rw [k] at this; cases this
/-- o[i] op= e -/
def tAugS (to ti te : TE) (tget : V → V → Hp → VK → Prop) (tip : TIp) (tset : TSet) : TS := fun D σ H => to σ H fun o H1 => ti σ H1 fun i H2 => tget o i H2 fun x H3 => te σ H3 fun y H4 => tip x y H4 fun z H5 => tset o i z H5 fun H6 => D.nx σ H6
/-- o[i], by values -/
def PGet (X : Cx) (t : V → V → Hp → VK → Prop) : Prop :=
  ∀ (pins : List (Addr × Obj)) (s : Shared) (σ : St) (H : Hp) (o i : V) (ov iv : Value) (Q : VK), Inv X pins σ H s → RelV o ov → RelV i iv → t o i H Q →
    wpAny (model X.prog X.w) X.A (getItem ov iv) (EP X pins σ Q) X.xe s
theorem ps_augS {o i e : Expr} {to ti te : TE} {tget : V → V → Hp → VK → Prop} {tip : TIp} {tset : TSet} {op : Operator} {tpos : Pos} (ho : PE X o to) (hi : PE X i ti) (hg : PGet X tget) (he : PE X e te) (hp : PIp X op tip) (hs : PSet X tset)
    (ha : ∀ ov iv new, augStore i ov iv new = (do holding [new, ov, iv] (setItem ov iv new); release [new, ov, iv] []; pure .next) := by intros; rfl) : PS X (.AugAssign (.Subscript o i tpos) op e pos) (tAugS to ti te tget tip tset) := by
  intro pins s σ H D I h
  refine wpAny_AugAssign_SubscriptAny (thn (ho pins s σ H _ I h) fun ov s1 ⟨x1, H1, I1, r1, q1⟩ => ?_) ha
  refine thn (hi pins s1 σ H1 _ I1 q1) fun iv s2 ⟨x2, H2, I2, r2, q2⟩ => ?_
  refine thn (hg pins s2 σ H2 x1 x2 ov iv _ I2 r1 r2 q2) fun old s3 ⟨x3, H3, I3, r3, q3⟩ => ?_
  refine thn (he pins s3 σ H3 _ I3 q3) fun v s4 ⟨x4, H4, I4, r4, q4⟩ => ?_
  refine thn (hp pins s4 σ H4 x3 x4 old v _ I4 r3 r4 q4) fun new s5 ⟨x5, H5, I5, r5, q5⟩ => ?_
  exact thn (hs pins s5 σ H5 x1 x2 x5 ov iv new _ I5 r1 r2 r5 q5) fun _ s6 ⟨H6, I6, q6⟩ => ⟨σ, H6, I6, q6⟩
/-- ints -/
def ipI (f : Int → Int → Int) : TIp := fun x y H Q => ∃ i j, x = .int i ∧ y = .int j ∧ Q (.int (f i j)) H
theorem ip_add : PIp X .Add (ipI fun i j => i + j) := by
  intro pins s σ H x y v u Q I r1 r2 h
  obtain ⟨i, j, e1, e2, q⟩ := h
  subst e1; subst e2
  obtain ⟨t, rfl⟩ := r1
  obtain ⟨t', rfl⟩ := r2
  exact iadd_int ⟨.int _, H, I.tok _, ⟨_, rfl⟩, q⟩
theorem ip_sub : PIp X .Sub (ipI fun i j => i - j) := by
  intro pins s σ H x y v u Q I r1 r2 h
  obtain ⟨i, j, e1, e2, q⟩ := h
  subst e1; subst e2
  obtain ⟨t, rfl⟩ := r1
  obtain ⟨t', rfl⟩ := r2
  exact isub_int ⟨.int _, H, I.tok _, ⟨_, rfl⟩, q⟩
end

/-! ### while -/
section
variable {X : Cx} {pos : Pos}
/-- the invariant W with its measure -/
def tWhile (c : TT) (tb : TS) : TS := fun D σ H => ∃ W : Nat → St → Hp → Prop, (∃ m, W m σ H) ∧ ∀ m σ H, W m σ H →
  c σ H fun b H1 => if b = true then ∃ N : St → Hp → Prop, (∀ σ' H', N σ' H' → ∃ m', m' < m ∧ W m' σ' H') ∧ tb { D with nx := N, ct := N, bk := D.nx } σ H1 else D.nx σ H1
theorem ps_while {c : Expr} {body : List Stmt} {tc : TT} {tb : TS} (hp : PassesOwn (model X.prog X.w) X.A X.env X.xe) (hc : PT X c tc) (hb : PSs X body tb) : PS X (.While c body [] pos) (tWhile tc tb) := by
  intro pins s σ H D I h
  obtain ⟨W, ⟨m0, w0⟩, turn⟩ := h
  refine wpAny_While (codeAny_whileLoop (fun n s' => ∃ σ' H', Inv X pins σ' H' s' ∧ W n σ' H') ?_ m0 ⟨σ, H, I, w0⟩)
  rintro n s1 ⟨σ1, H1, I1, w1⟩
  refine wpAny_passesOwn hp (thn (hc pins s1 σ1 H1 _ I1 (turn n σ1 H1 w1)) fun b s2 ⟨H2, I2, q2⟩ => ?_)
  cases b with
  | true =>
    obtain ⟨N, hN, q2⟩ := q2
    rw [if_pos rfl]
    refine wpAny_passesOwn hp (thn (hb pins s2 σ1 H2 _ I2 q2) fun f s3 q3 => ?_)
    cases f with
    | next =>
      obtain ⟨σ3, H3, I3, n3⟩ := q3
      obtain ⟨m', hm, w3⟩ := hN σ3 H3 n3
      exact ⟨m', hm, σ3, H3, I3, w3⟩
    | cont =>
      obtain ⟨σ3, H3, I3, n3⟩ := q3
      obtain ⟨m', hm, w3⟩ := hN σ3 H3 n3
      exact ⟨m', hm, σ3, H3, I3, w3⟩
    | brk => exact q3
    | ret v => exact q3
  | false =>
    rw [if_neg Bool.false_ne_true]
    exact wpAny_execs_nil ⟨σ1, H2, I2, q2⟩
end

/-! ### what a loop or a comprehension walks -/
/-- at turn i: it yields x (the heap may grow), or it stops -/
structure It where
  go : Nat → Hp → Prop
  yld : Nat → Hp → V → Hp → Prop
  stop : Nat → Hp → Prop
/-- the iterator's own objects may turn: they are not the frame's, not pinned, younger than the entry (or a comprehension's own) -/
def FpOk (X : Cx) (pins : List (Addr × Obj)) (H : Hp) (b : Addr) : Prop :=
  H b = none ∧ b ≠ X.env.locals ∧ b ∉ X.fs ∧ (b ∈ X.ex ∨ X.s₀.heap.objs.size ≤ b) ∧ (∀ x c, X.env.cells.lookup x = some c → c ≠ b) ∧ ∀ p ∈ X.pn ++ pins, p.1 ≠ b
theorem Inv.fpOk {X : Cx} {pins : List (Addr × Obj)} {σ : St} {H H' : Hp} {s : Shared} {b : Addr} (I : Inv X pins σ H s) (hb : s.heap.objs.size ≤ b) (hn : H' b = none) : FpOk X pins H' b := by
  refine ⟨hn, Nat.ne_of_gt (Nat.lt_of_lt_of_le I.lt hb), I.nofs hb, .inr (Nat.le_trans I.sz hb), fun x c e z => ?_, fun p hp z => ?_⟩
  · obtain ⟨v, q⟩ := I.cell x c e
    exact absurd (Nat.lt_of_lt_of_le q.lt (by rw [z]; exact hb)) (Nat.lt_irrefl _)
  · exact absurd (Nat.lt_of_lt_of_le (Heap.lt_size (I.pin p hp).1) (by rw [z]; exact hb)) (Nat.lt_irrefl _)
structure Turn (P : Program) (w : World) (K : PySem.W.Frag) (tg : Expr) (J : It) (fp : List Addr) (it : Addr) (tn : Nat → Heap → Prop) : Prop where
  mem : it ∈ fp
  obj : ∀ i h, tn i h → ∀ b ∈ fp, ∃ o, h.get? b = some o ∧ ∀ v, o.data ≠ .cell v
  keep : ∀ i h h', tn i h → (∀ b ∈ fp, ∀ o, h.get? b = some o → h'.get? b = some o) → tn i h'
  item : ∀ (X : Cx), X.prog = P → X.w = w → X.K = K → X.calm = true → ∀ (i : Nat) (pins : List (Addr × Obj)) (s : Shared) (σ : St) (H : Hp) (E : Value → Shared → Prop), Inv X pins σ H s → (∀ b ∈ fp, FpOk X pins H b) → tn i s.heap → J.go i H →
    wpAny (model P w) X.A (pyNext (.ref it)) (fun r s1 => ∃ u, r = some u ∧
      wpAny (model P w) X.A (letOwnedTupleGo tg (.ref it) u) (fun _ s2 => ∃ x H', Inv X pins σ H' s2 ∧ RelV x u ∧ J.yld i H x H' ∧ tn (i + 1) s2.heap ∧ ∀ b ∈ fp, H' b = none) E s1) E s
  done : ∀ (X : Cx), X.prog = P → X.w = w → X.K = K → X.calm = true → ∀ (i : Nat) (pins : List (Addr × Obj)) (s : Shared) (σ : St) (H : Hp) (E : Value → Shared → Prop), Inv X pins σ H s → (∀ b ∈ fp, FpOk X pins H b) → tn i s.heap → J.stop i H →
    wpAny (model P w) X.A (pyNext (.ref it)) (fun r s1 => r = none ∧ Inv X pins σ H s1) E s
  self : ∀ (A : Around) (i : Nat) (s : Shared) (Q : Value → Shared → Prop) (E : Value → Shared → Prop), tn i s.heap → Q (.ref it) s → wpAny (model P w) A (pyIter (.ref it)) Q E s
abbrev TI := St → Hp → (It → Hp → Prop) → Prop
/-- an iterator has come -/
def PIE (X : Cx) (pins : List (Addr × Obj)) (σ : St) (tg : Expr) (R : It → Hp → Prop) (itv : Value) (s2 : Shared) : Prop :=
  ∃ (it : Addr) (fp : List Addr) (tn : Nat → Heap → Prop) (J : It) (H' : Hp), itv = .ref it ∧ Inv X pins σ H' s2 ∧ Turn X.prog X.w X.K tg J fp it tn ∧ tn 0 s2.heap ∧ (∀ b ∈ fp, FpOk X pins H' b) ∧ R J H'
def PI (X : Cx) (tg iter : Expr) (wi : TI) : Prop :=
  ∀ (pins : List (Addr × Obj)) (s : Shared) (σ : St) (H : Hp) (R : It → Hp → Prop), Inv X pins σ H s → wi σ H R →
    wpAny (model X.prog X.w) X.A (eval iter X.env) (fun v s1 => wpAny (model X.prog X.w) X.A (pyIter v) (PIE X pins σ tg R) X.xe s1) X.xe s

/-- the step ahead of the store is nothing for an iterator that keeps no tuple -/
theorem go_of {M : Model} {A : Around} {E : Value → Shared → Prop} {s : Shared} {tg : Expr} {it : Addr} {u : Value} {o : Obj} {n : String} {vs : Array Value} {Q : Unit → Shared → Prop} (ho : s.heap.get? it = some o) (hc : o.cls = .type n) (hd : o.data = .fields vs)
    (hn : ["enumerate", "zip", "dict_itemiterator", "dict_reverseitemiterator", "odict_iterator", "itertools.zip_longest", "itertools.pairwise"].contains n = false) (hQ : Q () s) : wpAny M A (letOwnedTupleGo tg (.ref it) u) Q E s := by
  unfold letOwnedTupleGo
  cases tg <;> first
    | exact wpAny_pure hQ
    | (cases u <;> first
        | exact wpAny_pure hQ
        | (refine wpAny_bind (wpAny_load ho ?_)
           rw [hc, hd]
           show wpAny M A (if (["enumerate", "zip", "dict_itemiterator", "dict_reverseitemiterator", "odict_iterator", "itertools.zip_longest", "itertools.pairwise"].contains n && vs[0]? == some (rawInt _)) = true then _ else _) Q E s
           rw [if_neg (by intro h; rw [hn, Bool.false_and] at h; cases h)]
           exact wpAny_pure hQ))

/-- the list at a, as it stands at each turn (a loop may append to it) -/
def Itl (K : PySem.W.Frag) (a : Addr) : It :=
  ⟨fun i H => ∃ xs x, SqL K H a xs ∧ xs[i]? = some x, fun i H x H' => H' = H ∧ ∀ xs, SqL K H a xs → xs[i]? = some x, fun i H => ∃ xs, SqL K H a xs ∧ xs.length ≤ i⟩
def Itt (K : PySem.W.Frag) (a : Addr) : It :=
  ⟨fun i H => ∃ xs x, SqT K H a xs ∧ xs[i]? = some x, fun i H x H' => H' = H ∧ ∀ xs, SqT K H a xs → xs[i]? = some x, fun i H => ∃ xs, SqT K H a xs ∧ xs.length ≤ i⟩
/-- lo, lo + 1, .. (n of them) -/
def Itr (lo : Int) (n : Nat) : It := ⟨fun i _ => i < n, fun i H x H' => H' = H ∧ x = .int (lo + i), fun i _ => n ≤ i⟩
theorem turn_list {P : Program} {w : World} {K : PySem.W.Frag} {tg : Expr} (a it : Addr) : Turn P w K tg (Itl K a) [it] it (fun i h => h.IsListIter it a i) where
  mem := by simp
  obj := fun i h st b hb => by
    have e : b = it := by simpa using hb
    subst e
    obtain ⟨o, e, c, d⟩ := st
    exact ⟨o, e, fun v z => by rw [d] at z; cases z⟩
  keep := fun i h h' st k => st.at fun o e => k it (by simp) o e
  item := by
    intro X hP hw hK hc i pins s σ H E I hf st hg
    subst hP hw hK
    obtain ⟨xs, x, hq, hx⟩ := hg
    obtain ⟨its, rv, p, hz⟩ := I.list hq
    obtain ⟨u, hu, ru⟩ := rv.get hx
    obtain ⟨f0, f1, f2, f3, f4, f5⟩ := hf it (by simp)
    refine wpAny_pyNext_list_item st p.isList (x := u) (by simpa using hu) fun h' st' sb => ?_
    have I1 : Inv X pins σ H { s with heap := h' } := I.turned (t' := s.toks) (fun b o hb e => (sb.2 b hb).trans e) f0 f1 f3 f4 f5
    obtain ⟨o, e, c, d⟩ := id st'
    exact ⟨u, rfl, go_of (s := { s with heap := h' }) e c d (by decide) ⟨x, H, I1, ru, ⟨rfl, fun ys hy => by rw [I.list_inj hy hq]; exact hx⟩, st', fun b hb => (hf b hb).1⟩⟩
  done := by
    intro X hP hw hK hc i pins s σ H E I hf st hg
    subst hP hw hK
    obtain ⟨xs, hq, hx⟩ := hg
    obtain ⟨its, rv, p, hz⟩ := I.list hq
    obtain ⟨f0, f1, f2, f3, f4, f5⟩ := hf it (by simp)
    have hl := rv.length
    exact wpAny_pyNext_list_end (I.ok.hd hc) st p.isList (by simp; omega) fun h' eb => ⟨rfl, I.turned (t' := s.toks) (fun b o hb e => eb b o hb e) f0 f1 f3 f4 f5⟩
  self := fun _ _ _ _ _ st h => wpAny_pyIter_listiter st h
theorem turn_tuple {P : Program} {w : World} {K : PySem.W.Frag} {tg : Expr} (a it : Addr) : Turn P w K tg (Itt K a) [it] it (fun i h => h.IsTupleIter it a i) where
  mem := by simp
  obj := fun i h st b hb => by
    have e : b = it := by simpa using hb
    subst e
    obtain ⟨o, e, c, d⟩ := st
    exact ⟨o, e, fun v z => by rw [d] at z; cases z⟩
  keep := fun i h h' st k => st.at fun o e => k it (by simp) o e
  item := by
    intro X hP hw hK hc i pins s σ H E I hf st hg
    subst hP hw hK
    obtain ⟨xs, x, hq, hx⟩ := hg
    obtain ⟨its, rv, p, hz⟩ := I.tuple hq
    obtain ⟨u, hu, ru⟩ := rv.get hx
    obtain ⟨f0, f1, f2, f3, f4, f5⟩ := hf it (by simp)
    refine wpAny_pyNext_tuple_item st (show s.heap.IsTuple a its.toArray from p) (x := u) (by simpa using hu) fun h' st' sb => ?_
    have I1 : Inv X pins σ H { s with heap := h' } := I.turned (t' := s.toks) (fun b o hb e => (sb.2 b hb).trans e) f0 f1 f3 f4 f5
    obtain ⟨o, e, c, d⟩ := id st'
    exact ⟨u, rfl, go_of (s := { s with heap := h' }) e c d (by decide) ⟨x, H, I1, ru, ⟨rfl, fun ys hy => by rw [I.tuple_inj hy hq]; exact hx⟩, st', fun b hb => (hf b hb).1⟩⟩
  done := by
    intro X hP hw hK hc i pins s σ H E I hf st hg
    subst hP hw hK
    obtain ⟨xs, hq, hx⟩ := hg
    obtain ⟨its, rv, p, hz⟩ := I.tuple hq
    obtain ⟨f0, f1, f2, f3, f4, f5⟩ := hf it (by simp)
    have hl := rv.length
    exact wpAny_pyNext_tuple_end (I.ok.hd hc) st (show s.heap.IsTuple a its.toArray from p) (by simp; omega) fun h' eb => ⟨rfl, I.turned (t' := s.toks) (fun b o hb e => eb b o hb e) f0 f1 f3 f4 f5⟩
  self := fun _ _ _ _ _ st h => wpAny_pyIter_tupleiter st h
theorem turn_range {P : Program} {w : World} {K : PySem.W.Frag} {tg : Expr} (it : Addr) (lo : Int) (n : Nat) : Turn P w K tg (Itr lo n) [it] it (fun i h => IsRangeIter h it (lo + (i : Nat) * 1) ((n : Int) - (i : Nat)) 1) where
  mem := by simp
  obj := fun i h st b hb => by
    have e : b = it := by simpa using hb
    subst e
    exact ⟨_, st, fun v z => by
      have z' : Data.fields _ = Data.cell v := z
      cases z'⟩
  keep := fun i h h' st k => k it (by simp) _ st
  item := by
    intro X hP hw hK hc i pins s σ H E I hf st hg
    subst hP hw hK
    obtain ⟨f0, f1, f2, f3, f4, f5⟩ := hf it (by simp)
    have W := Walks.range (prog := X.prog) (w := X.w) (I.ok.hd hc) it lo 1 n
    refine W.item i s _ _ hg st fun v h' tk hv st' kk => ?_
    obtain ⟨t, rfl⟩ := hv
    have I1 : Inv X pins σ H { s with heap := h', toks := tk } := I.turned (fun b o hb e => kk b o (by simpa using hb) e) f0 f1 f3 f4 f5
    refine ⟨_, rfl, go_of (s := { s with heap := h', toks := tk }) (n := "range_iterator") st' rfl rfl (by decide) ⟨.int (lo + i), H, I1, ⟨t, ?_⟩, ⟨rfl, rfl⟩, st', fun b hb => (hf b hb).1⟩⟩
    rw [Int.mul_one]
  done := by
    intro X hP hw hK hc i pins s σ H E I hf st hg
    subst hP hw hK
    obtain ⟨f0, f1, f2, f3, f4, f5⟩ := hf it (by simp)
    exact wpAny_pyNext_range_end (I.ok.hd hc) st (by have : n ≤ i := hg; omega) fun h' eb => ⟨rfl, I.turned (t' := s.toks) (fun b o hb e => eb b o hb e) f0 f1 f3 f4 f5⟩
  self := fun _ _ _ _ _ st h => wpAny_pyIter_rangeiter st h
end L2

namespace L2
open PySem PySem.Spec PyProof.Rows
section
variable {X : Cx} {tg : Expr}
def iList (K : PySem.W.Frag) (tl : TE) : TI := fun σ H R => tl σ H fun x H1 => ∃ a, x = .ref a ∧ (∃ xs, SqL K H1 a xs) ∧ R (Itl K a) H1
def iTup (K : PySem.W.Frag) (tl : TE) : TI := fun σ H R => tl σ H fun x H1 => ∃ a, x = .ref a ∧ (∃ xs, SqT K H1 a xs) ∧ R (Itt K a) H1
theorem pi_list {l : Expr} {tl : TE} (hl : PE X l tl) : PI X tg l (iList X.K tl) := by
  intro pins s σ H R I h
  refine thn (hl pins s σ H _ I h) fun v s1 ⟨x, H1, I1, r1, q1⟩ => ?_
  obtain ⟨a, e, ⟨xs, hq⟩, q⟩ := q1
  subst e
  cases r1
  obtain ⟨its, rv, p, hz⟩ := I1.list hq
  refine wpAny_pyIter_list p.isList ?_
  refine ⟨s1.heap.objs.size, [s1.heap.objs.size], _, _, H1, rfl, I1.kept (t' := s1.toks) fun b o e => Heap.get?_push_of_some _ e, turn_list a _, ⟨_, Heap.get?_push_size _ rfl, rfl, rfl⟩, fun b hb => ?_, q⟩
  have e : b = s1.heap.objs.size := by simpa using hb
  subst e
  exact I1.fpOk (Nat.le_refl _) (I1.hok.fresh (Nat.le_refl _))
theorem pi_tup {l : Expr} {tl : TE} (hl : PE X l tl) : PI X tg l (iTup X.K tl) := by
  intro pins s σ H R I h
  refine thn (hl pins s σ H _ I h) fun v s1 ⟨x, H1, I1, r1, q1⟩ => ?_
  obtain ⟨a, e, ⟨xs, hq⟩, q⟩ := q1
  subst e
  cases r1
  obtain ⟨its, rv, p, hz⟩ := I1.tuple hq
  refine wpAny_pyIter_tuple (show s1.heap.IsTuple a its.toArray from p) ?_
  refine ⟨s1.heap.objs.size, [s1.heap.objs.size], _, _, H1, rfl, I1.kept (t' := s1.toks) fun b o e => Heap.get?_push_of_some _ e, turn_tuple a _, ⟨_, Heap.get?_push_size _ rfl, rfl, rfl⟩, fun b hb => ?_, q⟩
  have e : b = s1.heap.objs.size := by simpa using hb
  subst e
  exact I1.fpOk (Nat.le_refl _) (I1.hok.fresh (Nat.le_refl _))
/-- a range object just made, walked -/
theorem range_it {pins : List (Addr × Obj)} {σ : St} {H : Hp} {s : Shared} {R : It → Hp → Prop} {E : Value → Shared → Prop} {lo hi : Int} {t u v : Tok} {tk : Nat} (I : Inv X pins σ H s) (h1 : -(2 ^ 62) ≤ lo) (h2 : lo < 2 ^ 62) (h3 : -(2 ^ 62) ≤ hi) (h4 : hi < 2 ^ 62)
    (q : R (Itr lo (hi - lo).toNat) H) : wpAny (model X.prog X.w) X.A (pyIter (.ref s.heap.objs.size)) (PIE X pins σ tg R) E { s with heap := s.heap.push { cls := .type "range", data := .fields #[.int lo t, .int hi u, .int 1 v] }, toks := tk } := by
  refine wpAny_pyIter_range (IsRange.new ..) (small_one h1 h2 h3 h4) ?_
  have I1 : Inv X pins σ H { s with heap := s.heap.push { cls := .type "range", data := .fields #[.int lo t, .int hi u, .int 1 v] }, toks := tk } := I.kept fun b o e => Heap.get?_push_of_some _ e
  refine ⟨(s.heap.push { cls := .type "range", data := .fields #[.int lo t, .int hi u, .int 1 v] }).objs.size, [(s.heap.push { cls := .type "range", data := .fields #[.int lo t, .int hi u, .int 1 v] }).objs.size], _, _, H, rfl,
    I1.kept (t' := tk) fun b o e => Heap.get?_push_of_some _ e, turn_range _ lo (hi - lo).toNat, ?_, fun b hb => ?_, q⟩
  · have e1 : lo + ((0 : Nat) : Int) * 1 = lo := by simp
    have e2 : (((hi - lo).toNat : Nat) : Int) - ((0 : Nat) : Int) = Builtin.Range.rangeSize lo hi 1 := by rw [rangeSize_one]; split <;> omega
    show IsRangeIter _ _ (lo + ((0 : Nat) : Int) * 1) ((((hi - lo).toNat : Nat) : Int) - ((0 : Nat) : Int)) 1
    rw [e1, e2]
    exact Heap.get?_push_size _ rfl
  · have e : b = (s.heap.push { cls := .type "range", data := .fields #[.int lo t, .int hi u, .int 1 v] }).objs.size := by simpa using hb
    subst e
    exact I1.fpOk (Nat.le_refl _) (I1.hok.fresh (Nat.le_refl _))
def iRng1 (ta : TA) : TI := fun σ H R => ta σ H fun vs H1 => ∃ j : Int, vs = [.int j] ∧ -(2 ^ 62) ≤ j ∧ j < 2 ^ 62 ∧ R (Itr 0 j.toNat) H1
def iRng2 (ta : TA) : TI := fun σ H R => ta σ H fun vs H1 => ∃ i j : Int, vs = [.int i, .int j] ∧ (-(2 ^ 62) ≤ i ∧ i < 2 ^ 62 ∧ -(2 ^ 62) ≤ j ∧ j < 2 ^ 62) ∧ R (Itr i (j - i).toNat) H1
theorem pi_range1 {a : Expr} {ta : TA} {p pos : Pos} (hg : Gl X "range") (hm : X.mg "range" = none) (ha : PA X [a] ta) (hs : starEach [a] X.env = [(false, eval a X.env)] := by rfl) : PI X tg (.Call (.Name "range" p) [a] [] pos) (iRng1 ta) := by
  intro pins s σ H R I h
  refine Call_ (ld_blt I hg hm boot_range (PyProof.Rows.callWith_type1 (thn (ha pos pins s σ H _ I h) fun us s1 ⟨vs, H1, I1, r1, q1⟩ => ?_) hs rfl))
  obtain ⟨j, e, q1, q2, q⟩ := q1
  subst e
  cases r1 with
  | cons r rr =>
    cases rr
    obtain ⟨t, rfl⟩ := r
    exact call_range_1 (range_it I1 (by omega) (by omega) q1 q2 (by simpa using q))
theorem pi_range2 {a b : Expr} {ta : TA} {p pos : Pos} (hg : Gl X "range") (hm : X.mg "range" = none) (ha : PA X [a, b] ta) (hs : starEach [a, b] X.env = [(false, eval a X.env), (false, eval b X.env)] := by rfl) (hs2 : starEach [b] X.env = [(false, eval b X.env)] := by rfl) :
    PI X tg (.Call (.Name "range" p) [a, b] [] pos) (iRng2 ta) := by
  intro pins s σ H R I h
  refine Call_ (ld_blt I hg hm boot_range (PyProof.Rows.callWith_type1 (thn (ha pos pins s σ H _ I h) fun us s1 ⟨vs, H1, I1, r1, q1⟩ => ?_) (by rw [hs, hs2]) (by rw [hs2]; rfl)))
  obtain ⟨i, j, e, ⟨q1, q2, q3, q4⟩, q⟩ := q1
  subst e
  cases r1 with
  | cons r rr =>
    cases rr with
    | cons r' rr =>
      cases rr
      obtain ⟨t, rfl⟩ := r
      obtain ⟨t', rfl⟩ := r'
      exact call_range_2 (range_it I1 q1 q2 q3 q4 q)

/-! ### for -/
/-- W: the invariant by the turn and a measure; N: what the body is to reach -/
def tFor (wi : TI) (g : TG) (tb : TS) : TS := fun D σ H => wi σ H fun J H1 => ∃ W : Nat → Nat → St → Hp → Prop, (∃ m, W 0 m σ H1) ∧ ∀ i m σ H, W i m σ H →
  (J.stop i H ∧ D.nx σ H) ∨ (J.go i H ∧ ∃ N : St → Hp → Prop, (∀ σ' H', N σ' H' → ∃ m', m' < m ∧ W (i + 1) m' σ' H') ∧ ∀ x H', J.yld i H x H' → g x σ H' fun σ2 H2 => tb { D with nx := N, ct := N, bk := D.nx } σ2 H2)
/-- the records at fp as they stand -/
def pinsAt (fp : List Addr) (h : Heap) : List (Addr × Obj) := fp.filterMap fun b => (h.get? b).map fun o => (b, o)
theorem mem_pinsAt {fp : List Addr} {h : Heap} {b : Addr} {o : Obj} (hb : b ∈ fp) (e : h.get? b = some o) : (b, o) ∈ pinsAt fp h := List.mem_filterMap.mpr ⟨b, hb, by rw [e]; rfl⟩
theorem of_pinsAt {fp : List Addr} {h : Heap} {p : Addr × Obj} (hp : p ∈ pinsAt fp h) : p.1 ∈ fp ∧ h.get? p.1 = some p.2 := by
  obtain ⟨b, hb, e⟩ := List.mem_filterMap.mp hp
  cases q : h.get? b with
  | none => rw [q] at e; cases e
  | some o =>
    rw [q] at e
    have e' : (b, o) = p := Option.some.inj e
    subst e'
    exact ⟨hb, q⟩
theorem Inv.pinned {pins : List (Addr × Obj)} {σ : St} {H : Hp} {s : Shared} {fp : List Addr} (I : Inv X pins σ H s) (hf : ∀ b ∈ fp, FpOk X pins H b) (ho : ∀ b ∈ fp, ∃ o, s.heap.get? b = some o ∧ ∀ v, o.data ≠ .cell v) : Inv X (pins ++ pinsAt fp s.heap) σ H s :=
  I.pins_of fun p hp => (List.mem_append.mp hp).elim (fun z => I.pin p (List.mem_append_right _ z)) fun z => by
    obtain ⟨hb, e⟩ := of_pinsAt z
    obtain ⟨f0, f1, f2, _⟩ := hf p.1 hb
    obtain ⟨o, e', d⟩ := ho p.1 hb
    rw [e] at e'; cases e'
    exact ⟨e, f0, f1, f2, d⟩
theorem Inv.unpinned {pins pl : List (Addr × Obj)} {σ : St} {H : Hp} {s : Shared} (I : Inv X (pins ++ pl) σ H s) : Inv X pins σ H s := I.pins_of fun p hp => I.pin p (List.mem_append_right _ (List.mem_append_left _ hp))
theorem ps_for {iter : Expr} {body : List Stmt} {wi : TI} {g : TG} {tb : TS} {pos : Pos} (hp : PassesOwn (model X.prog X.w) X.A X.env X.xe) (hc : X.calm = true) (hi : PI X tg iter wi) (hg : PG X tg g) (hb : PSs X body tb)
    (hs : ∀ x, foldedSetIterable iter X.env x = pure x := by intro _; rfl) : PS X (.For tg iter body [] pos) (tFor wi g tb) := by
  intro pins s σ H D I h
  refine wpAny_For (thn (hi pins s σ H _ I h) fun v s1 h1 => thn h1 fun itv s2 h2 => ?_) hs
  obtain ⟨it, fp, tn, J, H2, e, I2, T, st2, f2, W, ⟨m0, w0⟩, turn⟩ := h2
  subst e
  -- what stays true of the iterator's objects through the loop
  have stat : ∀ {H' : Hp}, (∀ b ∈ fp, H' b = none) → ∀ b ∈ fp, FpOk X pins H' b := fun hn b hb => ⟨hn b hb, (f2 b hb).2⟩
  refine codeAny_forLoop_any (fun n s' => ∃ i σ' H', Inv X pins σ' H' s' ∧ tn i s'.heap ∧ (∀ b ∈ fp, H' b = none) ∧ W i n σ' H') ?_ m0 ⟨0, σ, H2, I2, st2, fun b hb => (f2 b hb).1, w0⟩
  rintro n s3 ⟨i, σ3, H3, I3, st3, fr3, w3⟩
  rcases turn i n σ3 H3 w3 with ⟨stop, qn⟩ | ⟨go, N, hN, step⟩
  · refine wpAny_passesOwn hp (thn (T.done X rfl rfl rfl hc i pins s3 σ3 H3 X.xe I3 (stat fr3) st3 stop) fun r s4 ⟨hr, I4⟩ => ?_)
    subst hr
    exact wpAny_execs_nil ⟨σ3, H3, I4, qn⟩
  · refine wpAny_passesOwn hp (thn (T.item X rfl rfl rfl hc i pins s3 σ3 H3 X.xe I3 (stat fr3) st3 go) fun r s4 ⟨u, hr, h4⟩ => ?_)
    subst hr
    refine wpAny_passesOwn hp (thn h4 fun _ s5 ⟨x, H5, I5, r5, y5, st5, fr5⟩ => ?_)
    have I5' := I5.pinned (stat fr5) (T.obj _ _ st5)
    refine wpAny_passesOwn hp (thn (hg _ s5 σ3 H5 x u _ I5' r5 (step x H5 y5)) fun _ s6 ⟨σ6, H6, I6, q6⟩ => ?_)
    refine wpAny_passesOwn hp (thn (hb _ s6 σ6 H6 _ I6 q6) fun f s7 q7 => ?_)
    have again : ∀ {σ7 : St} {H7 : Hp}, Inv X (pins ++ pinsAt fp s5.heap) σ7 H7 s7 → N σ7 H7 → ∃ m, m < n ∧ ∃ i σ' H', Inv X pins σ' H' s7 ∧ tn i s7.heap ∧ (∀ b ∈ fp, H' b = none) ∧ W i m σ' H' := fun {σ7 H7} I7 n7 => by
      obtain ⟨m', hm, w7⟩ := hN σ7 H7 n7
      refine ⟨m', hm, i + 1, σ7, H7, I7.unpinned, T.keep _ _ _ st5 fun b hb o e => (I7.pin (b, o) (List.mem_append_right _ (List.mem_append_right _ (mem_pinsAt hb e)))).1, fun b hb => ?_, w7⟩
      obtain ⟨o, e, d⟩ := T.obj _ _ st5 b hb
      exact (I7.pin (b, o) (List.mem_append_right _ (List.mem_append_right _ (mem_pinsAt hb e)))).2.1
    cases f with
    | next => obtain ⟨σ7, H7, I7, n7⟩ := q7; exact again I7 n7
    | cont => obtain ⟨σ7, H7, I7, n7⟩ := q7; exact again I7 n7
    | brk => obtain ⟨σ7, H7, I7, q7⟩ := q7; exact ⟨σ7, H7, I7.unpinned, q7⟩
    | ret v => obtain ⟨x7, σ7, H7, I7, r7, q7⟩ := q7; exact ⟨x7, σ7, H7, I7.unpinned, r7, q7⟩
end

/-! ### the forms one uses -/
/-- over a list that the body leaves as it is -/
theorem for_list {K : PySem.W.Frag} {a : Addr} {xs : List V} {g : TG} {tb : TS} {D : Ends} {σ : St} {H : Hp} (Pv : Nat → St → Hp → Prop) (h0 : Pv 0 σ H) (hl : ∀ i σ H, i ≤ xs.length → Pv i σ H → SqL K H a xs)
    (hs : ∀ i x σ H, xs[i]? = some x → Pv i σ H → g x σ H fun σ2 H2 => tb { D with nx := Pv (i + 1), ct := Pv (i + 1), bk := D.nx } σ2 H2) (hd : ∀ σ H, Pv xs.length σ H → D.nx σ H) :
    ∃ W : Nat → Nat → St → Hp → Prop, (∃ m, W 0 m σ H) ∧ ∀ i m σ H, W i m σ H →
      ((Itl K a).stop i H ∧ D.nx σ H) ∨ ((Itl K a).go i H ∧ ∃ N : St → Hp → Prop, (∀ σ' H', N σ' H' → ∃ m', m' < m ∧ W (i + 1) m' σ' H') ∧ ∀ x H', (Itl K a).yld i H x H' → g x σ H' fun σ2 H2 => tb { D with nx := N, ct := N, bk := D.nx } σ2 H2) := by
  refine ⟨fun i m σ H => m = xs.length - i ∧ i ≤ xs.length ∧ Pv i σ H, ⟨xs.length, by simp, Nat.zero_le _, h0⟩, ?_⟩
  rintro i m σ H ⟨rfl, hi, p⟩
  have q := hl i σ H hi p
  by_cases hlt : i < xs.length
  · refine .inr ⟨⟨xs, xs[i], q, by simp [hlt]⟩, Pv (i + 1), fun σ' H' p' => ⟨xs.length - (i + 1), by omega, rfl, hlt, p'⟩, fun x H' y => ?_⟩
    obtain ⟨e, y⟩ := y
    subst e
    exact hs i x σ _ (y xs q) p
  · have e : i = xs.length := by omega
    subst e
    exact .inl ⟨⟨xs, q, Nat.le_refl _⟩, hd σ H p⟩
theorem for_tup {K : PySem.W.Frag} {a : Addr} {xs : List V} {g : TG} {tb : TS} {D : Ends} {σ : St} {H : Hp} (Pv : Nat → St → Hp → Prop) (h0 : Pv 0 σ H) (hl : ∀ i σ H, i ≤ xs.length → Pv i σ H → SqT K H a xs)
    (hs : ∀ i x σ H, xs[i]? = some x → Pv i σ H → g x σ H fun σ2 H2 => tb { D with nx := Pv (i + 1), ct := Pv (i + 1), bk := D.nx } σ2 H2) (hd : ∀ σ H, Pv xs.length σ H → D.nx σ H) :
    ∃ W : Nat → Nat → St → Hp → Prop, (∃ m, W 0 m σ H) ∧ ∀ i m σ H, W i m σ H →
      ((Itt K a).stop i H ∧ D.nx σ H) ∨ ((Itt K a).go i H ∧ ∃ N : St → Hp → Prop, (∀ σ' H', N σ' H' → ∃ m', m' < m ∧ W (i + 1) m' σ' H') ∧ ∀ x H', (Itt K a).yld i H x H' → g x σ H' fun σ2 H2 => tb { D with nx := N, ct := N, bk := D.nx } σ2 H2) := by
  refine ⟨fun i m σ H => m = xs.length - i ∧ i ≤ xs.length ∧ Pv i σ H, ⟨xs.length, by simp, Nat.zero_le _, h0⟩, ?_⟩
  rintro i m σ H ⟨rfl, hi, p⟩
  have q := hl i σ H hi p
  by_cases hlt : i < xs.length
  · refine .inr ⟨⟨xs, xs[i], q, by simp [hlt]⟩, Pv (i + 1), fun σ' H' p' => ⟨xs.length - (i + 1), by omega, rfl, hlt, p'⟩, fun x H' y => ?_⟩
    obtain ⟨e, y⟩ := y
    subst e
    exact hs i x σ _ (y xs q) p
  · have e : i = xs.length := by omega
    subst e
    exact .inl ⟨⟨xs, q, Nat.le_refl _⟩, hd σ H p⟩
theorem for_range {lo : Int} {n : Nat} {g : TG} {tb : TS} {D : Ends} {σ : St} {H : Hp} (Pv : Nat → St → Hp → Prop) (h0 : Pv 0 σ H)
    (hs : ∀ i σ H, i < n → Pv i σ H → g (.int (lo + i)) σ H fun σ2 H2 => tb { D with nx := Pv (i + 1), ct := Pv (i + 1), bk := D.nx } σ2 H2) (hd : ∀ σ H, Pv n σ H → D.nx σ H) :
    ∃ W : Nat → Nat → St → Hp → Prop, (∃ m, W 0 m σ H) ∧ ∀ i m σ H, W i m σ H →
      ((Itr lo n).stop i H ∧ D.nx σ H) ∨ ((Itr lo n).go i H ∧ ∃ N : St → Hp → Prop, (∀ σ' H', N σ' H' → ∃ m', m' < m ∧ W (i + 1) m' σ' H') ∧ ∀ x H', (Itr lo n).yld i H x H' → g x σ H' fun σ2 H2 => tb { D with nx := N, ct := N, bk := D.nx } σ2 H2) := by
  refine ⟨fun i m σ H => m = n - i ∧ i ≤ n ∧ Pv i σ H, ⟨n, by simp, Nat.zero_le _, h0⟩, ?_⟩
  rintro i m σ H ⟨rfl, hi, p⟩
  by_cases hlt : i < n
  · refine .inr ⟨hlt, Pv (i + 1), fun σ' H' p' => ⟨n - (i + 1), by omega, rfl, hlt, p'⟩, fun x H' y => ?_⟩
    obtain ⟨e, y⟩ := y
    subst e y
    exact hs i σ _ hlt p
  · have e : i = n := by omega
    subst e
    exact .inl ⟨Nat.le_refl _, hd σ H p⟩
/-- while, by a word and a measure of the state -/
theorem while_by {c : TT} {tb : TS} {D : Ends} {σ : St} {H : Hp} (Pv : St → Hp → Prop) (μ : St → Hp → Nat) (h0 : Pv σ H)
    (hs : ∀ σ H, Pv σ H → c σ H fun b H1 => if b = true then tb { D with nx := fun σ' H' => Pv σ' H' ∧ μ σ' H' < μ σ H, ct := fun σ' H' => Pv σ' H' ∧ μ σ' H' < μ σ H, bk := D.nx } σ H1 else D.nx σ H1)
    (mono : ∀ σ H Q Q', (∀ b H1, Q b H1 → Q' b H1) → c σ H Q → c σ H Q') : tWhile c tb D σ H := by
  refine ⟨fun m σ H => m = μ σ H ∧ Pv σ H, ⟨_, rfl, h0⟩, ?_⟩
  rintro m σ H ⟨rfl, p⟩
  refine mono σ H _ _ (fun b H1 q => ?_) (hs σ H p)
  cases b with
  | true => exact ⟨_, fun σ' H' ⟨p', l⟩ => ⟨_, l, rfl, p'⟩, q⟩
  | false => exact q
end L2

namespace L2
open PySem PySem.Spec PyProof.Rows

abbrev R2 := V → V → Hp → VK → Prop
/-- a two-place operation on values: f is binaryOp op, inplaceOp op or compareOp op -/
def OpR (X : Cx) (f : Value → Value → Sem Value) (r : R2) : Prop :=
  ∀ (pins : List (Addr × Obj)) (s : Shared) (σ : St) (H : Hp) (x y : V) (v u : Value) (Q : VK), Inv X pins σ H s → RelV x v → RelV y u → r x y H Q →
    wpAny (model X.prog X.w) X.A (f v u) (EP X pins σ Q) X.xe s
/-- a one-place operation -/
def UnR (X : Cx) (f : Value → Sem Value) (r : V → Hp → VK → Prop) : Prop :=
  ∀ (pins : List (Addr × Obj)) (s : Shared) (σ : St) (H : Hp) (x : V) (v : Value) (Q : VK), Inv X pins σ H s → RelV x v → r x H Q →
    wpAny (model X.prog X.w) X.A (f v) (EP X pins σ Q) X.xe s
/-- a call of a value that is known (a builtin, a type) with values -/
def CallR (X : Cx) (f : Value) (r : List V → Hp → VK → Prop) : Prop :=
  ∀ (pins : List (Addr × Obj)) (s : Shared) (σ : St) (H : Hp) (xs : List V) (us : List Value) (Q : VK), Inv X pins σ H s → Vals xs us → r xs H Q →
    wpAny (model X.prog X.w) X.A (call f us) (EP X pins σ Q) X.xe s
/-- a value's truth -/
def TruR (X : Cx) (r : V → Hp → (Bool → Hp → Prop) → Prop) : Prop :=
  ∀ (pins : List (Addr × Obj)) (s : Shared) (σ : St) (H : Hp) (x : V) (v : Value) (Q : Bool → Hp → Prop), Inv X pins σ H s → RelV x v → r x H Q →
    wpAny (model X.prog X.w) X.A (truthy v) (TP X pins σ Q) X.xe s

def tOp (r : R2) (ta tb : TE) : TE := fun σ H Q => ta σ H fun x H1 => tb σ H1 fun y H2 => r x y H2 Q
def tUn (r : V → Hp → VK → Prop) (ta : TE) : TE := fun σ H Q => ta σ H fun x H1 => r x H1 Q
/-- ints in, under C, and a value out -/
def rI (C : Int → Int → Prop) (g : Int → Int → V) : R2 := fun x y H Q => ∃ i j, x = .int i ∧ y = .int j ∧ C i j ∧ Q (g i j) H
def rI0 (g : Int → Int → V) : R2 := fun x y H Q => ∃ i j, x = .int i ∧ y = .int j ∧ Q (g i j) H
def rU (g : Int → V) : V → Hp → VK → Prop := fun x H Q => ∃ i, x = .int i ∧ Q (g i) H

section
variable {X : Cx} {a b c : Expr} {ta tb tc : TE} {pos : Pos}

theorem binT (ha : PE X a ta) (hb : PE X b tb) {pins : List (Addr × Obj)} {s : Shared} {σ : St} {H : Hp} {R : V → V → Hp → Prop} (I : Inv X pins σ H s)
    (h : ta σ H fun x H1 => tb σ H1 fun y H2 => R x y H2) {Q : Value → Shared → Prop} {f : Value → Value → Sem Value}
    (hf : ∀ v u s2 x y H2, Inv X pins σ H2 s2 → RelV x v → RelV y u → R x y H2 → wpAny (model X.prog X.w) X.A (f v u) Q X.xe s2) :
    wpAny (model X.prog X.w) X.A (eval a X.env) (fun v s₁ => wpAny (model X.prog X.w) X.A (eval b X.env) (fun u s₂ => wpAny (model X.prog X.w) X.A (f v u) Q X.xe s₂) X.xe s₁) X.xe s := by
  refine thn (ha pins s σ H _ I h) fun v s1 ⟨x, H1, I1, r1, q1⟩ => ?_
  refine thn (hb pins s1 σ H1 _ I1 q1) fun u s2 ⟨y, H2, I2, r2, q2⟩ => ?_
  exact hf v u s2 x y H2 I2 r1 r2 q2

theorem pe_op {op : Operator} {r : R2} (ho : OpR X (binaryOp op) r) (ha : PE X a ta) (hb : PE X b tb) : PE X (.BinOp a op b pos) (tOp r ta tb) := by
  intro pins s σ H Q I h
  exact wpAny_BinOp (binT ha hb I h fun v u s2 x y H2 I2 rx ry q => ho pins s2 σ H2 x y v u Q I2 rx ry q)
theorem pe_un {op : UnaryOp} {r : V → Hp → VK → Prop} (ho : UnR X (unaryOp op) r) (ha : PE X a ta) : PE X (.UnaryOp op a pos) (tUn r ta) := by
  intro pins s σ H Q I h
  exact UnaryOp_ (thn (ha pins s σ H _ I h) fun v s1 ⟨x, H1, I1, r1, q1⟩ => ho pins s1 σ H1 x v Q I1 r1 q1)
/-- a op= e at a name: the name's slot i -/
theorem augR {op : Operator} {r : R2} (ho : OpR X (inplaceOp op) r) {pins : List (Addr × Obj)} {s : Shared} {σ : St} {H : Hp} {x y : V} {v u : Value} {Q : VK} (I : Inv X pins σ H s)
    (rx : RelV x v) (ry : RelV y u) (q : r x y H Q) : wpAny (model X.prog X.w) X.A (inplaceOp op v u) (EP X pins σ Q) X.xe s := ho pins s σ H x y v u Q I rx ry q

/-! ### ints -/
theorem opI {f : Value → Value → Sem Value} {C : Int → Int → Prop} {g : Int → Int → Int}
    (rule : ∀ (i j : Int) (t u : Tok) (s : Shared) (Q : Value → Shared → Prop) (E : Value → Shared → Prop), C i j → Q (.int (g i j) s.toks) { s with toks := s.toks + 1 } → wpAny (model X.prog X.w) X.A (f (.int i t) (.int j u)) Q E s) :
    OpR X f (rI C fun i j => .int (g i j)) := by
  intro pins s σ H x y v u Q I rx ry h
  obtain ⟨i, j, rfl, rfl, hc, q⟩ := h
  obtain ⟨t, rfl⟩ := rx
  obtain ⟨t', rfl⟩ := ry
  exact rule i j t t' s _ _ hc ⟨.int (g i j), H, I.tok _, ⟨_, rfl⟩, q⟩
theorem opI0 {f : Value → Value → Sem Value} {g : Int → Int → Int}
    (rule : ∀ (i j : Int) (t u : Tok) (s : Shared) (Q : Value → Shared → Prop) (E : Value → Shared → Prop), Q (.int (g i j) s.toks) { s with toks := s.toks + 1 } → wpAny (model X.prog X.w) X.A (f (.int i t) (.int j u)) Q E s) :
    OpR X f (rI0 fun i j => .int (g i j)) := by
  intro pins s σ H x y v u Q I rx ry h
  obtain ⟨i, j, rfl, rfl, q⟩ := h
  obtain ⟨t, rfl⟩ := rx
  obtain ⟨t', rfl⟩ := ry
  exact rule i j t t' s _ _ ⟨.int (g i j), H, I.tok _, ⟨_, rfl⟩, q⟩
theorem opB0 {f : Value → Value → Sem Value} {g : Int → Int → Bool}
    (rule : ∀ (i j : Int) (t u : Tok) (s : Shared) (Q : Value → Shared → Prop) (E : Value → Shared → Prop), Q (.bool (g i j)) s → wpAny (model X.prog X.w) X.A (f (.int i t) (.int j u)) Q E s) :
    OpR X f (rI0 fun i j => .bl (g i j)) := by
  intro pins s σ H x y v u Q I rx ry h
  obtain ⟨i, j, rfl, rfl, q⟩ := h
  obtain ⟨t, rfl⟩ := rx
  obtain ⟨t', rfl⟩ := ry
  exact rule i j t t' s _ _ ⟨.bl (g i j), H, I, rfl, q⟩

def CDiv (i j : Int) : Prop := 0 < j ∧ j < 1073741824
def CDivN (i j : Int) : Prop := j ≠ 0 ∧ j.natAbs < 1073741824
def CPow (i j : Int) : Prop := 0 ≤ j ∧ j ≤ 1000000 ∧ i.natAbs < 2 ^ 64
def CMul (i j : Int) : Prop := (-(2 ^ 64) < i ∧ i < 2 ^ 64) ∨ (-(2 ^ 64) < j ∧ j < 2 ^ 64)
theorem CMul.ok {i j : Int} (h : CMul i j) : IntMulOk i j := by
  rcases h with ⟨h1, h2⟩ | ⟨h1, h2⟩
  · exact .of_left (intBits_le_64 h1 h2)
  · exact .of_right (intBits_le_64 h1 h2)
theorem two_pow_nn (k : Nat) : (0 : Int) ≤ 2 ^ k := by
  rw [two_pow_cast]
  exact Int.natCast_nonneg _

theorem op_add : OpR X (binaryOp .Add) (rI0 fun i j => .int (i + j)) := opI0 fun _ _ _ _ _ _ _ q => add_int q
theorem op_sub : OpR X (binaryOp .Sub) (rI0 fun i j => .int (i - j)) := opI0 fun _ _ _ _ _ _ _ q => sub_int q
theorem op_mul : OpR X (binaryOp .Mult) (rI CMul fun i j => .int (i * j)) := opI fun _ _ _ _ _ _ _ hc q => mul_int q hc.ok
/-- // by a positive divisor -/
theorem op_fdiv : OpR X (binaryOp .FloorDiv) (rI CDiv fun i j => .int (i / j)) := opI fun i j _ _ _ _ _ hc q => by
  have h1 : (0 : Int) < j := hc.1
  have h2 : j < 1073741824 := hc.2
  exact floordiv_int (by omega) (by rw [Int.fdiv_eq_ediv_of_nonneg i (by omega)]; exact q) (.inl (PyProof.noPylong_small (by omega)))
theorem op_fdivN : OpR X (binaryOp .FloorDiv) (rI CDivN fun i j => .int (i.fdiv j)) := opI fun _ _ _ _ _ _ _ hc q => floordiv_int hc.1 q (.inl (PyProof.noPylong_small hc.2))
/-- % by a positive divisor of any size -/
theorem op_mod : OpR X (binaryOp .Mod) (rI (fun _ j => 0 < j) fun i j => .int (i % j)) := opI fun i j _ _ _ _ _ hc q => by
  have h1 : (0 : Int) < j := hc
  exact mod_int' (by omega) (by rw [Int.fmod_eq_emod_of_nonneg i (by omega)]; exact q)
theorem op_modN : OpR X (binaryOp .Mod) (rI (fun _ j => j ≠ 0) fun i j => .int (i.fmod j)) := opI fun _ _ _ _ _ _ _ hc q => mod_int' hc q
theorem op_pow : OpR X (binaryOp .Pow) (rI CPow fun i j => .int (i ^ j.toNat)) := opI fun _ _ _ _ _ _ _ hc q => pow_int_small hc.1 hc.2.1 hc.2.2 q
theorem op_shl : OpR X (binaryOp .LShift) (rI CPow fun i j => .int (i * 2 ^ j.toNat)) := opI fun _ _ _ _ _ _ _ hc q => lshift_int_small hc.1 hc.2.1 hc.2.2 q
theorem op_shr : OpR X (binaryOp .RShift) (rI (fun _ j => 0 ≤ j) fun i j => .int (i / 2 ^ j.toNat)) := opI fun i j _ _ _ _ _ hc q =>
  rshift_int hc (by rw [Int.fdiv_eq_ediv_of_nonneg i (two_pow_nn _)]; exact q)
theorem op_and : OpR X (binaryOp .BitAnd) (rI0 fun i j => .int (Builtin.bitAnd i j)) := opI0 fun _ _ _ _ _ _ _ q => and_int q
theorem op_or : OpR X (binaryOp .BitOr) (rI0 fun i j => .int (Builtin.bitOr i j)) := opI0 fun _ _ _ _ _ _ _ q => or_int q
theorem op_xor : OpR X (binaryOp .BitXor) (rI0 fun i j => .int (Builtin.bitXor i j)) := opI0 fun _ _ _ _ _ _ _ q => xor_int q

theorem iop_add : OpR X (inplaceOp .Add) (rI0 fun i j => .int (i + j)) := opI0 fun _ _ _ _ _ _ _ q => iadd_int q
theorem iop_sub : OpR X (inplaceOp .Sub) (rI0 fun i j => .int (i - j)) := opI0 fun _ _ _ _ _ _ _ q => isub_int q
theorem iop_mul : OpR X (inplaceOp .Mult) (rI CMul fun i j => .int (i * j)) := opI fun _ _ _ _ _ _ _ hc q => imul_int q hc.ok
theorem iop_fdiv : OpR X (inplaceOp .FloorDiv) (rI CDiv fun i j => .int (i / j)) := opI fun i j _ _ _ _ _ hc q => by
  have h1 : (0 : Int) < j := hc.1
  have h2 : j < 1073741824 := hc.2
  exact ifloordiv_int (by omega) (by rw [Int.fdiv_eq_ediv_of_nonneg i (by omega)]; exact q) (.inl (PyProof.noPylong_small (by omega)))
theorem iop_mod : OpR X (inplaceOp .Mod) (rI (fun _ j => 0 < j) fun i j => .int (i % j)) := opI fun i j _ _ _ _ _ hc q => by
  have h1 : (0 : Int) < j := hc
  exact imod_int (by omega) (by rw [Int.fmod_eq_emod_of_nonneg i (by omega)]; exact q)
theorem iop_shl : OpR X (inplaceOp .LShift) (rI CPow fun i j => .int (i * 2 ^ j.toNat)) := opI fun _ _ _ _ _ _ _ hc q => ilshift_int_small hc.1 hc.2.1 hc.2.2 q
theorem iop_shr : OpR X (inplaceOp .RShift) (rI (fun _ j => 0 ≤ j) fun i j => .int (i / 2 ^ j.toNat)) := opI fun i j _ _ _ _ _ hc q =>
  irshift_int hc (by rw [Int.fdiv_eq_ediv_of_nonneg i (two_pow_nn _)]; exact q)
theorem iop_and : OpR X (inplaceOp .BitAnd) (rI0 fun i j => .int (Builtin.bitAnd i j)) := opI0 fun _ _ _ _ _ _ _ q => iand_int q
theorem iop_or : OpR X (inplaceOp .BitOr) (rI0 fun i j => .int (Builtin.bitOr i j)) := opI0 fun _ _ _ _ _ _ _ q => ior_int q
theorem iop_xor : OpR X (inplaceOp .BitXor) (rI0 fun i j => .int (Builtin.bitXor i j)) := opI0 fun _ _ _ _ _ _ _ q => ixor_int q

theorem unI {f : Value → Sem Value} {g : Int → Int}
    (rule : ∀ (i : Int) (t : Tok) (s : Shared) (Q : Value → Shared → Prop) (E : Value → Shared → Prop), Q (.int (g i) s.toks) { s with toks := s.toks + 1 } → wpAny (model X.prog X.w) X.A (f (.int i t)) Q E s) :
    UnR X f (rU fun i => .int (g i)) := by
  intro pins s σ H x v Q I rx h
  obtain ⟨i, rfl, q⟩ := h
  obtain ⟨t, rfl⟩ := rx
  exact rule i t s _ _ ⟨.int (g i), H, I.tok _, ⟨_, rfl⟩, q⟩
theorem un_neg : UnR X (unaryOp .USub) (rU fun i => .int (-i)) := unI fun _ _ _ _ _ q => neg_int q
theorem un_inv : UnR X (unaryOp .Invert) (rU fun i => .int (Builtin.bitNot i)) := unI fun _ _ _ _ _ q => invert_int q

/-! ### bools among ints: n += (a < b) -/
theorem op_add_ib : OpR X (binaryOp .Add) (fun x y H Q => ∃ i k, x = .int i ∧ y = .bl k ∧ Q (.int (i + b2i k)) H) := by
  intro pins s σ H x y v u Q I rx ry h
  obtain ⟨i, k, rfl, rfl, q⟩ := h
  obtain ⟨t, rfl⟩ := rx
  cases ry
  exact add_int_bool ⟨.int (i + b2i k), H, I.tok _, ⟨_, rfl⟩, q⟩
end

/-! ### comparisons -/
/-- the scalars that == tells apart as data does -/
def scal : V → V → Bool
  | .non, .non => true | .non, .int _ => true | .int _, .non => true | .non, .bl _ => true | .bl _, .non => true | .non, .str _ => true | .str _, .non => true
  | .int _, .int _ => true | .bl _, .bl _ => true | .str _, .str _ => true | .byt _, .byt _ => true
  | .int _, .str _ => true | .str _, .int _ => true | .bl _, .str _ => true | .str _, .bl _ => true
  | _, _ => false
def rEq : R2 := fun x y H Q => scal x y = true ∧ Q (.bl (decide (x = y))) H
def rNe : R2 := fun x y H Q => scal x y = true ∧ Q (.bl (!decide (x = y))) H

theorem dec_int {i j : Int} : decide (V.int i = V.int j) = (i == j) := by
  rw [Bool.eq_iff_iff]
  simp
theorem dec_bl {i j : Bool} : decide (V.bl i = V.bl j) = (i == j) := by
  rw [Bool.eq_iff_iff]
  simp
theorem dec_str {i j : Str} : decide (V.str i = V.str j) = (i == j) := by
  rw [Bool.eq_iff_iff]
  simp
theorem dec_byt {i j : Array UInt8} : decide (V.byt i = V.byt j) = (i.toList == j.toList) := by
  rw [Bool.eq_iff_iff]
  cases i
  cases j
  simp

section
variable {X : Cx} {a b c : Expr} {ta tb tc : TE} {pos : Pos}
theorem fin_bl {pins : List (Addr × Obj)} {σ : St} {H : Hp} {s : Shared} {Q : VK} {k k' : Bool} (I : Inv X pins σ H s) (q : Q (.bl k) H) (e : k = k') : EP X pins σ Q (.bool k') s := by
  subst e
  exact ⟨.bl k, H, I, rfl, q⟩
theorem op_eq : OpR X (compareOp .Eq) rEq := by
  intro pins s σ H x y v u Q I rx ry h
  obtain ⟨hs, q⟩ := h
  cases x with
  | non =>
    cases rx
    cases y with
    | non => cases ry; exact PySem.EqNone.eq_none_none (fin_bl I q (by simp))
    | bl j => cases ry; exact PySem.EqNone.eq_none_bool (fin_bl I q (by simp))
    | int j => obtain ⟨t', rfl⟩ := ry; exact PySem.EqNone.eq_none_int (fin_bl I q (by simp))
    | str j => obtain ⟨t', rfl⟩ := ry; exact PySem.EqNone.eq_none_str (fin_bl I q (by simp))
    | _ => exact absurd (show false = true from hs) Bool.false_ne_true
  | bl i =>
    cases rx
    cases y with
    | non => cases ry; exact PySem.EqNone.eq_bool_none (fin_bl I q (by simp))
    | bl j => cases ry; exact eq_bool (fin_bl I q dec_bl)
    | str j => obtain ⟨t', rfl⟩ := ry; exact PySem.EqMixed.eq_bool_str (fin_bl I q (by simp))
    | _ => exact absurd (show false = true from hs) Bool.false_ne_true
  | int i =>
    obtain ⟨t, rfl⟩ := rx
    cases y with
    | non => cases ry; exact PySem.EqNone.eq_int_none (fin_bl I q (by simp))
    | int j => obtain ⟨t', rfl⟩ := ry; exact eq_int (fin_bl I q dec_int)
    | str j => obtain ⟨t', rfl⟩ := ry; exact PySem.EqMixed.eq_int_str (fin_bl I q (by simp))
    | _ => exact absurd (show false = true from hs) Bool.false_ne_true
  | str i =>
    obtain ⟨t, rfl⟩ := rx
    cases y with
    | non => cases ry; exact PySem.EqNone.eq_str_none (fin_bl I q (by simp))
    | bl j => cases ry; exact PySem.EqMixed.eq_str_bool (fin_bl I q (by simp))
    | int j => obtain ⟨t', rfl⟩ := ry; exact PySem.EqMixed.eq_str_int (fin_bl I q (by simp))
    | str j => obtain ⟨t', rfl⟩ := ry; exact eq_str (fin_bl I q dec_str)
    | _ => exact absurd (show false = true from hs) Bool.false_ne_true
  | byt i =>
    obtain ⟨t, rfl⟩ := rx
    cases y with
    | byt j => obtain ⟨t', rfl⟩ := ry; exact PySem.W.eq_bytes (fin_bl I q dec_byt)
    | _ => exact absurd (show false = true from hs) Bool.false_ne_true
  | _ => cases y <;> exact absurd (show false = true from hs) Bool.false_ne_true
theorem op_ne : OpR X (compareOp .NotEq) rNe := by
  intro pins s σ H x y v u Q I rx ry h
  obtain ⟨hs, q⟩ := h
  cases x with
  | non =>
    cases rx
    cases y with
    | non => cases ry; exact PySem.EqNone.ne_none_none (fin_bl I q (by simp))
    | bl j => cases ry; exact PySem.EqNone.ne_none_bool (fin_bl I q (by simp))
    | int j => obtain ⟨t', rfl⟩ := ry; exact PySem.EqNone.ne_none_int (fin_bl I q (by simp))
    | str j => obtain ⟨t', rfl⟩ := ry; exact PySem.EqNone.ne_none_str (fin_bl I q (by simp))
    | _ => exact absurd (show false = true from hs) Bool.false_ne_true
  | bl i =>
    cases rx
    cases y with
    | non => cases ry; exact PySem.EqNone.ne_bool_none (fin_bl I q (by simp))
    | bl j => cases ry; exact ne_bool (fin_bl I q (congrArg not dec_bl))
    | str j => obtain ⟨t', rfl⟩ := ry; exact PySem.EqMixed.ne_bool_str (fin_bl I q (by simp))
    | _ => exact absurd (show false = true from hs) Bool.false_ne_true
  | int i =>
    obtain ⟨t, rfl⟩ := rx
    cases y with
    | non => cases ry; exact PySem.EqNone.ne_int_none (fin_bl I q (by simp))
    | int j => obtain ⟨t', rfl⟩ := ry; exact ne_int (fin_bl I q (congrArg not dec_int))
    | str j => obtain ⟨t', rfl⟩ := ry; exact PySem.EqMixed.ne_int_str (fin_bl I q (by simp))
    | _ => exact absurd (show false = true from hs) Bool.false_ne_true
  | str i =>
    obtain ⟨t, rfl⟩ := rx
    cases y with
    | non => cases ry; exact PySem.EqNone.ne_str_none (fin_bl I q (by simp))
    | bl j => cases ry; exact PySem.EqMixed.ne_str_bool (fin_bl I q (by simp))
    | int j => obtain ⟨t', rfl⟩ := ry; exact PySem.EqMixed.ne_str_int (fin_bl I q (by simp))
    | str j => obtain ⟨t', rfl⟩ := ry; exact ne_str (fin_bl I q (congrArg not dec_str))
    | _ => exact absurd (show false = true from hs) Bool.false_ne_true
  | byt i =>
    obtain ⟨t, rfl⟩ := rx
    cases y with
    | byt j => obtain ⟨t', rfl⟩ := ry; exact PySem.W.ne_bytes (fin_bl I q (congrArg not dec_byt))
    | _ => exact absurd (show false = true from hs) Bool.false_ne_true
  | _ => cases y <;> exact absurd (show false = true from hs) Bool.false_ne_true

theorem op_lt : OpR X (compareOp .Lt) (rI0 fun i j => .bl (decide (i < j))) := opB0 fun _ _ _ _ _ _ _ q => lt_int q
theorem op_le : OpR X (compareOp .LtE) (rI0 fun i j => .bl (decide (i ≤ j))) := opB0 fun _ _ _ _ _ _ _ q => le_int q
theorem op_gt : OpR X (compareOp .Gt) (rI0 fun i j => .bl (decide (j < i))) := opB0 fun _ _ _ _ _ _ _ q => gt_int q
theorem op_ge : OpR X (compareOp .GtE) (rI0 fun i j => .bl (decide (j ≤ i))) := opB0 fun _ _ _ _ _ _ _ q => ge_int q
theorem op_lt_str : OpR X (compareOp .Lt) (fun x y H Q => ∃ i j, x = .str i ∧ y = .str j ∧ Q (.bl (decide (i.cps.toList < j.cps.toList))) H) := by
  intro pins s σ H x y v u Q I rx ry h
  obtain ⟨i, j, rfl, rfl, q⟩ := h
  obtain ⟨t, rfl⟩ := rx
  obtain ⟨t', rfl⟩ := ry
  exact lt_str (fin_bl I q rfl)
/-- the one string within the other -/
theorem op_in_str : OpR X (compareOp .In) (fun x y H Q => ∃ i j, x = .str i ∧ y = .str j ∧ Q (.bl (!(Builtin.Str.occurrences j i 0 j.length 1).isEmpty)) H) := by
  intro pins s σ H x y v u Q I rx ry h
  obtain ⟨i, j, rfl, rfl, q⟩ := h
  obtain ⟨t, rfl⟩ := rx
  obtain ⟨t', rfl⟩ := ry
  exact in_str (fin_bl I q rfl)

/-- is None, is not None: the right side a value none -/
theorem op_isN : OpR X (compareOp .Is) (fun x y H Q => y = .non ∧ Q (.bl (decide (x = .non))) H) := by
  intro pins s σ H x y v u Q I rx ry h
  obtain ⟨rfl, q⟩ := h
  cases ry
  refine is_none_gen (fin_bl I q ?_)
  cases x <;> first
    | (cases rx; rfl)
    | (obtain ⟨t, rfl⟩ := rx; rfl)
theorem op_notN : OpR X (compareOp .IsNot) (fun x y H Q => y = .non ∧ Q (.bl (!decide (x = .non))) H) := by
  intro pins s σ H x y v u Q I rx ry h
  obtain ⟨rfl, q⟩ := h
  cases ry
  refine isnot_none_gen (fin_bl I q ?_)
  cases x <;> first
    | (cases rx; rfl)
    | (obtain ⟨t, rfl⟩ := rx; rfl)

theorem op_notin_str : OpR X (compareOp .NotIn) (fun x y H Q => ∃ i j, x = .str i ∧ y = .str j ∧ Q (.bl (!(!(Builtin.Str.occurrences j i 0 j.length 1).isEmpty))) H) := by
  intro pins s σ H x y v u Q I rx ry h
  obtain ⟨i, j, rfl, rfl, q⟩ := h
  obtain ⟨t, rfl⟩ := rx
  obtain ⟨t', rfl⟩ := ry
  exact notIn_str (fin_bl I q rfl)
/-- is, is not of two objects that are tracked lists or instances -/
def isObj : HO → Bool
  | .lst _ => true
  | .ins _ _ _ => true
  | _ => false
theorem obj_there {pins : List (Addr × Obj)} {s : Shared} {σ : St} {H : Hp} {a : Addr} {o : HO} (I : Inv X pins σ H s) (h : H a = some o) (p : isObj o = true) : ∃ ob, s.heap.get? a = some ob ∧ ob.cls ≠ .type "tuple" := by
  cases o with
  | lst xs =>
    obtain ⟨_, its, n, _, e⟩ : xs.length ≤ sizeLine ∧ ∃ (its : List Value) (n : Nat), Vals xs its ∧ s.heap.get? a = some { cls := .type "list", data := .seq its.toArray n } := I.hok a _ h
    exact ⟨_, e, (by show Value.type "list" ≠ .type "tuple"; decide +kernel)⟩
  | ins C dx fs =>
    have x := I.hok a _ h
    obtain ⟨_, _, _, e, _⟩ := x
    exact ⟨_, e, (by show Value.ref C ≠ .type "tuple"; exact fun z => by cases z)⟩
  | _ => exact absurd (show false = true from p) Bool.false_ne_true
theorem op_is_ref : OpR X (compareOp .Is) (fun x y H Q => ∃ a b oa ob, x = .ref a ∧ y = .ref b ∧ H a = some oa ∧ isObj oa = true ∧ H b = some ob ∧ isObj ob = true ∧ Q (.bl (decide (a = b))) H) := by
  intro pins s σ H x y v u Q I rx ry h
  obtain ⟨a, b, oa, ob, rfl, rfl, ha, pa, hb, pb, q⟩ := h
  cases rx
  cases ry
  obtain ⟨o1, e1, n1⟩ := obj_there I ha pa
  obtain ⟨o2, e2, _⟩ := obj_there I hb pb
  by_cases z : a = b
  · subst z
    exact wpAny_is_ref_self (fin_bl I q (by simp))
  · exact wpAny_is_ref_other z e1 e2 n1 (fin_bl I q (by simp [z]))
theorem op_isnot_ref : OpR X (compareOp .IsNot) (fun x y H Q => ∃ a b oa ob, x = .ref a ∧ y = .ref b ∧ H a = some oa ∧ isObj oa = true ∧ H b = some ob ∧ isObj ob = true ∧ Q (.bl (!decide (a = b))) H) := by
  intro pins s σ H x y v u Q I rx ry h
  obtain ⟨a, b, oa, ob, rfl, rfl, ha, pa, hb, pb, q⟩ := h
  cases rx
  cases ry
  obtain ⟨o1, e1, n1⟩ := obj_there I ha pa
  obtain ⟨o2, e2, _⟩ := obj_there I hb pb
  by_cases z : a = b
  · subst z
    exact wpAny_isNot_ref_self (fin_bl I q (by simp))
  · exact wpAny_isNot_ref_other z e1 e2 n1 (fin_bl I q (by simp [z]))

/-- two rules for one operation: by cases -/
theorem OpR.or {f : Value → Value → Sem Value} {r r' : R2} (h : OpR X f r) (h' : OpR X f r') : OpR X f (fun x y H Q => r x y H Q ∨ r' x y H Q) := by
  intro pins s σ H x y v u Q I rx ry q
  rcases q with q | q
  · exact h pins s σ H x y v u Q I rx ry q
  · exact h' pins s σ H x y v u Q I rx ry q

theorem nomark (b : Expr) {op : CmpOp} (h : op ≠ .In := by decide) (h2 : op ≠ .NotIn := by decide) : behindInMarks op b = false := by
  have e1 : (op == CmpOp.In) = false := by cases op <;> first | rfl | exact absurd rfl h
  have e2 : (op == CmpOp.NotIn) = false := by cases op <;> first | rfl | exact absurd rfl h2
  cases b <;> simp [behindInMarks, e1, e2]
/-- a comparison as a value; hm: nomark b, or (for in, not in) by with_unfolding_all rfl -/
theorem pe_cmpR {op : CmpOp} {r : R2} (ho : OpR X (compareOp op) r) (ha : PE X a ta) (hb : PE X b tb) (hm : behindInMarks op b = false) : PE X (.Compare a [op] [b] pos) (tOp r ta tb) := by
  intro pins s σ H Q I h
  exact wpAny_Compare1 (binT ha hb I h fun v u s2 x y H2 I2 rx ry q => ho pins s2 σ H2 x y v u Q I2 rx ry q) hm
/-- a reading of a value as a test -/
def tTest (t : TE) : TT := fun σ H Q => t σ H fun x H' => ∃ k, x = .bl k ∧ Q k H'
theorem pt_cmpR {op : CmpOp} {r : R2} (ho : OpR X (compareOp op) r) (ha : PE X a ta) (hb : PE X b tb) (hm : behindInMarks op b = false) : PT X (.Compare a [op] [b] pos) (tTest (tOp r ta tb)) := by
  intro pins s σ H Q I h
  refine wpAny_isTrue_Compare1 (thn (ha pins s σ H _ I h) fun v s1 ⟨x, H1, I1, r1, q1⟩ => thn (hb pins s1 σ H1 _ I1 q1) fun u s2 ⟨y, H2, I2, r2, q2⟩ =>
    thn (ho pins s2 σ H2 x y v u _ I2 r1 r2 q2) fun c s3 ⟨z, H3, I3, r3, k, e, q3⟩ => ?_) hm
  subst e
  cases r3
  exact wpAny_truthy_bool ⟨H3, I3, q3⟩
/-- a op1 b op2 c -/
def tChain (r r' : R2) (ta tb tc : TE) : TE := fun σ H Q => ta σ H fun x H1 => tb σ H1 fun y H2 => r x y H2 fun z H3 => ∃ k, z = .bl k ∧
  (if k = true then tc σ H3 fun w' H4 => r' y w' H4 Q else Q (.bl false) H3)
theorem pe_chain {op op' : CmpOp} {r r' : R2} (ho : OpR X (compareOp op) r) (ho' : OpR X (compareOp op') r') (ha : PE X a ta) (hb : PE X b tb) (hc : PE X c tc)
    (hm : lastMarks [op, op'] [b, c] = false := by with_unfolding_all rfl) : PE X (.Compare a [op, op'] [b, c] pos) (tChain r r' ta tb tc) := by
  intro pins s σ H Q I h
  refine Compare_chain (thn (ha pins s σ H _ I h) fun v s1 ⟨x, H1, I1, r1, q1⟩ => chain_link (thn (hb pins s1 σ H1 _ I1 q1) fun u s2 ⟨y, H2, I2, r2, q2⟩ =>
    thn (ho pins s2 σ H2 x y v u _ I2 r1 r2 q2) fun d s3 ⟨z, H3, I3, r3, k, e, q3⟩ => ?_)) hm
  subst e
  cases r3
  refine wpAny_truthy_bool ?_
  cases k with
  | false => exact ite_ff ⟨.bl false, H3, I3, rfl, q3⟩
  | true => exact ite_tt (chain_last (thn (hc pins s3 σ H3 _ I3 q3) fun w' s4 ⟨z', H4, I4, r4, q4⟩ => ho' pins s4 σ H4 y z' u w' Q I4 r2 r4 q4))
theorem pt_chain {op op' : CmpOp} {r r' : R2} (ho : OpR X (compareOp op) r) (ho' : OpR X (compareOp op') r') (ha : PE X a ta) (hb : PE X b tb) (hc : PE X c tc)
    (hm : lastMarks [op, op'] [b, c] = false := by with_unfolding_all rfl) : PT X (.Compare a [op, op'] [b, c] pos) (tTest (tChain r r' ta tb tc)) := by
  intro pins s σ H Q I h
  refine isTrue_chain (thn (ha pins s σ H _ I h) fun v s1 ⟨x, H1, I1, r1, q1⟩ => test_link (thn (hb pins s1 σ H1 _ I1 q1) fun u s2 ⟨y, H2, I2, r2, q2⟩ =>
    thn (ho pins s2 σ H2 x y v u _ I2 r1 r2 q2) fun d s3 ⟨z, H3, I3, r3, k, e, q3⟩ => ?_)) hm
  subst e
  cases r3
  refine wpAny_truthy_bool ?_
  cases k with
  | false =>
    obtain ⟨k', e', q'⟩ := q3
    cases e'
    exact ite_ff ⟨H3, I3, q'⟩
  | true =>
    refine ite_tt (test_last (thn (hc pins s3 σ H3 _ I3 q3) fun w' s4 ⟨z', H4, I4, r4, q4⟩ => thn (ho' pins s4 σ H4 y z' u w' _ I4 r2 r4 q4) fun d' s5 ⟨z2, H5, I5, r5, k2, e2, q5⟩ => ?_))
    subst e2
    cases r5
    exact wpAny_truthy_bool ⟨H5, I5, q5⟩

/-! ### truth -/
/-- a value's truth by the abstract heap -/
def TruV (K : PySem.W.Frag) (x : V) (H : Hp) (k : Bool) : Prop :=
  match x with
  | .non => k = false
  | .bl b => k = b
  | .int i => k = (i != 0)
  | .str y => y.length ≤ sizeLine ∧ k = ((y.length : Int) != 0)
  | .byt y => y.size ≤ sizeLine ∧ k = ((y.size : Int) != 0)
  | .ref p => (∃ xs, SqL K H p xs ∧ k = !xs.isEmpty) ∨ (∃ xs, SqT K H p xs ∧ k = !xs.isEmpty) ∨ ∃ kvs, H p = some (.dK kvs) ∧ k = !kvs.isEmpty
  | _ => False
theorem isEmpty_kv {κ : Type} {kvs : List (κ × V)} {vs : List (κ × Value)} (r : KV kvs vs) : (!vs.isEmpty) = !kvs.isEmpty := by
  cases r <;> rfl
theorem isEmpty_of {xs : List V} {its : List Value} (r : Vals xs its) : (!its.toArray.isEmpty) = !xs.isEmpty := by
  cases r <;> simp
theorem line63 : (sizeLine : Nat) < 2 ^ 63 := by rw [sizeLine_eq]; decide
theorem tru_ok : TruR X (fun x H Q => ∃ k, TruV X.K x H k ∧ Q k H) := by
  intro pins s σ H x v Q I rx h
  obtain ⟨k, e, q⟩ := h
  have hl := line63
  have hs : sizeLine = 16777216 := sizeLine_eq
  cases x with
  | non =>
    cases rx
    have e' : k = false := e
    subst e'
    exact truthy_none ⟨H, I, q⟩
  | bl b =>
    cases rx
    have e' : k = b := e
    subst e'
    exact wpAny_truthy_bool ⟨H, I, q⟩
  | int i =>
    obtain ⟨t, rfl⟩ := rx
    have e' : k = (i != 0) := e
    subst e'
    exact PySem.P.truthy_int ⟨H, I, q⟩
  | str y =>
    obtain ⟨t, rfl⟩ := rx
    obtain ⟨hy, e'⟩ : y.length ≤ sizeLine ∧ k = ((y.length : Int) != 0) := e
    subst e'
    exact PySem.P.truthy_str (by omega) ⟨H, I.tok _, q⟩
  | byt y =>
    obtain ⟨t, rfl⟩ := rx
    obtain ⟨hy, e'⟩ : y.size ≤ sizeLine ∧ k = ((y.size : Int) != 0) := e
    subst e'
    exact PySem.W.truthy_bytes (by omega) ⟨H, I.tok _, q⟩
  | ref p =>
    cases rx
    have e' : (∃ xs, SqL X.K H p xs ∧ k = !xs.isEmpty) ∨ (∃ xs, SqT X.K H p xs ∧ k = !xs.isEmpty) ∨ ∃ kvs, H p = some (.dK kvs) ∧ k = !kvs.isEmpty := e
    rcases e' with ⟨xs, hx, e'⟩ | ⟨xs, hx, e'⟩ | ⟨kvs, hx, e'⟩
    · subst e'
      obtain ⟨its, r, pl, hz⟩ := I.list hx
      have hlen := r.length
      exact wpAny_truthy_list pl.isList (by simp only [List.size_toArray]; omega) ⟨H, I.tok _, by rw [isEmpty_of r]; exact q⟩
    · subst e'
      obtain ⟨its, r, pl, hz⟩ := I.tuple hx
      have hlen := r.length
      exact truthy_tuple pl (by simp only [List.size_toArray]; omega) ⟨H, I.tok _, by rw [isEmpty_of r]; exact q⟩
    · subst e'
      obtain ⟨hz, hS, vs, r, m⟩ : kvs.length ≤ sizeLine ∧ (p == sysModules) = false ∧ ∃ vs, KV kvs vs ∧ s.heap.DictOf (mixKind X.prog X.w) p vs := I.hok p _ hx
      have hlen : kvs.length = vs.length := Paired.length r
      exact wpAny_truthy_dict hS m (by omega) ⟨H, I.tok _, by rw [isEmpty_kv r]; exact q⟩
  | _ => exact (show False from e).elim
/-- any expression whose test is its value's truth (a name, a call, a subscript, a field ..: he by fun _ => rfl) -/
theorem pt_truth (ha : PE X a ta) (he : ∀ whole, isTrue a X.env whole = (do let v ← whole; standAt a.pos; holding [v] (truthy v))) :
    PT X a (fun σ H Q => ta σ H fun x H' => ∃ k, TruV X.K x H' k ∧ Q k H') := by
  intro pins s σ H Q I h
  exact isTrue_plain (thn (ha pins s σ H _ I h) fun v s1 ⟨x, H1, I1, r1, q1⟩ => tru_ok pins s1 σ H1 x v Q I1 r1 q1) (he _)

/-! ### strs and bytes -/
theorem pe_byt {x : List UInt8} {k : Nat} : PE X (.Constant (.bytes x) k pos) (fun _ H Q => Q (.byt x.toArray) H) := fun _ _ _ H _ I h => PySem.W.Constant_bytes ⟨.byt x.toArray, H, I.tok _, ⟨_, rfl⟩, h⟩
theorem op_add_str : OpR X (binaryOp .Add) (fun x y H Q => ∃ i j, x = .str i ∧ y = .str j ∧ i.length + j.length ≤ sizeLine ∧ Q (.str (i ++ j)) H) := by
  intro pins s σ H x y v u Q I rx ry h
  obtain ⟨i, j, rfl, rfl, hz, q⟩ := h
  obtain ⟨t, rfl⟩ := rx
  obtain ⟨t', rfl⟩ := ry
  exact add_str (fun t' tk => ⟨.str (i ++ j), H, I.tok _, ⟨_, rfl⟩, q⟩) hz
theorem iop_add_str : OpR X (inplaceOp .Add) (fun x y H Q => ∃ i j, x = .str i ∧ y = .str j ∧ i.length + j.length ≤ sizeLine ∧ Q (.str (i ++ j)) H) := by
  intro pins s σ H x y v u Q I rx ry h
  obtain ⟨i, j, rfl, rfl, hz, q⟩ := h
  obtain ⟨t, rfl⟩ := rx
  obtain ⟨t', rfl⟩ := ry
  exact iadd_str (fun t' tk => ⟨.str (i ++ j), H, I.tok _, ⟨_, rfl⟩, q⟩) hz
theorem op_add_byt : OpR X (binaryOp .Add) (fun x y H Q => ∃ i j, x = .byt i ∧ y = .byt j ∧ i.size + j.size ≤ 16777216 ∧ Q (.byt (i ++ j)) H) := by
  intro pins s σ H x y v u Q I rx ry h
  obtain ⟨i, j, rfl, rfl, hz, q⟩ := h
  obtain ⟨t, rfl⟩ := rx
  obtain ⟨t', rfl⟩ := ry
  exact PySem.W.KBy.add_bytes hz (fun t' tk => ⟨.byt (i ++ j), H, I.tok _, ⟨_, rfl⟩, q⟩)

def PlainIxT (b : Expr) : Prop := ∀ o i, subscripted b false o i = operate [o, i] (getItem o i)
/-- s[i], 0 ≤ i < len -/
theorem pe_item_str (ha : PE X a ta) (hb : PE X b tb) (hs : PlainIxT b) :
    PE X (.Subscript a b pos) (tOp (fun x y H Q => ∃ z i c, x = .str z ∧ y = .int i ∧ 0 ≤ i ∧ i < 2 ^ 63 ∧ i < z.length ∧ z.cps[i.toNat]? = some c ∧ Q (.str ⟨#[c]⟩) H) ta tb) := by
  intro pins s σ H Q I h
  refine Subscript_ (binT ha hb I h fun v u s2 x y H2 I2 rx ry q => ?_)
  obtain ⟨z, i, c, rfl, rfl, h0, h63, h1, hc, q⟩ := q
  obtain ⟨t, rfl⟩ := rx
  obtain ⟨t', rfl⟩ := ry
  have e : seqIndex? i z.length = some i.toNat := PySem.StrLaws.seqIndex_nonneg h0 h1
  exact tail_any (typeIs_str s2 z t) slot_str_getitem.lookup (getItem_str (c := c) (by
    have e1 : decide (i < -(2 ^ 63 : Int)) = false := decide_eq_false (by omega)
    have e2 : decide (i ≥ 2 ^ 63) = false := decide_eq_false (by omega)
    rw [e1, e2] <;> rfl) (by rw [e]; exact hc) ⟨.str ⟨#[c]⟩, H2, I2.tok _, ⟨_, rfl⟩, q⟩) (hs _ _)
/-- b[i], 0 ≤ i < len -/
theorem pe_item_byt (ha : PE X a ta) (hb : PE X b tb) (hs : PlainIxT b) :
    PE X (.Subscript a b pos) (tOp (fun x y H Q => ∃ (z : List UInt8) (i : Int), x = .byt z.toArray ∧ y = .int i ∧ z.length ≤ sizeLine ∧ 0 ≤ i ∧ i < z.length ∧ Q (.int ((z.getD i.toNat 0).toNat : Nat)) H) ta tb) := by
  intro pins s σ H Q I h
  refine Subscript_ (binT ha hb I h fun v u s2 x y H2 I2 rx ry q => ?_)
  obtain ⟨z, i, rfl, rfl, hz, h0, h1, q⟩ := q
  obtain ⟨t, rfl⟩ := rx
  obtain ⟨t', rfl⟩ := ry
  have hl : sizeLine = 16777216 := sizeLine_eq
  exact tail_any (PySem.W.typeIs_bytes s2 z.toArray t) PySem.W.FB.slot_bytes_getitem.lookup (PySem.W.getItem_bytes (by omega) h0 h1 ⟨.int ((z.getD i.toNat 0).toNat : Nat), H2, I2.tok _, ⟨_, rfl⟩, q⟩) (hs _ _)

/-! ### scalar builtins, by CallR -/
theorem vals1 {x : V} {us : List Value} (r : Vals [x] us) : ∃ u, us = [u] ∧ RelV x u := by
  cases r with
  | cons r1 r2 => cases r2; exact ⟨_, rfl, r1⟩
theorem vals2 {x y : V} {us : List Value} (r : Vals [x, y] us) : ∃ u w', us = [u, w'] ∧ RelV x u ∧ RelV y w' := by
  cases r with
  | cons r1 r2 =>
    cases r2 with
    | cons r3 r4 => cases r4; exact ⟨_, _, rfl, r1, r3⟩
theorem call_abs : CallR X (.builtin "abs") (fun xs H Q => ∃ i, xs = [.int i] ∧ Q (.int (if i < 0 then -i else i)) H) := by
  intro pins s σ H xs us Q I r h
  obtain ⟨i, rfl, q⟩ := h
  obtain ⟨u, rfl, t, rfl⟩ := vals1 r
  exact call_abs_int fun u tk => ⟨.int (if i < 0 then -i else i), H, I.tok _, ⟨_, rfl⟩, q⟩
theorem call_max2 (hc : X.calm = true) : CallR X (.builtin "max") (fun xs H Q => ∃ i j, xs = [.int i, .int j] ∧ Q (.int (if j > i then j else i)) H) := by
  intro pins s σ H xs us Q I r h
  obtain ⟨i, j, rfl, q⟩ := h
  obtain ⟨u, w', rfl, ⟨t, rfl⟩, ⟨t', rfl⟩⟩ := vals2 r
  refine max_two_ints (I.ok.hd hc) fun h' tk k => ⟨_, H, I.kept k, ?_, q⟩
  by_cases hj : j > i
  · rw [if_pos hj, if_pos hj]; exact ⟨_, rfl⟩
  · rw [if_neg hj, if_neg hj]; exact ⟨_, rfl⟩
theorem call_min2 (hc : X.calm = true) : CallR X (.builtin "min") (fun xs H Q => ∃ i j, xs = [.int i, .int j] ∧ Q (.int (if j < i then j else i)) H) := by
  intro pins s σ H xs us Q I r h
  obtain ⟨i, j, rfl, q⟩ := h
  obtain ⟨u, w', rfl, ⟨t, rfl⟩, ⟨t', rfl⟩⟩ := vals2 r
  refine min_two_ints (I.ok.hd hc) fun h' tk k => ⟨_, H, I.kept k, ?_, q⟩
  by_cases hj : j < i
  · rw [if_pos hj, if_pos hj]; exact ⟨_, rfl⟩
  · rw [if_neg hj, if_neg hj]; exact ⟨_, rfl⟩
theorem call_int1 : CallR X (.type "int") (fun xs H Q => (∃ i, xs = [.int i] ∧ Q (.int i) H) ∨ ∃ k, xs = [.bl k] ∧ Q (.int (if k then 1 else 0)) H) := by
  intro pins s σ H xs us Q I r h
  rcases h with ⟨i, rfl, q⟩ | ⟨k, rfl, q⟩
  · obtain ⟨u, rfl, t, rfl⟩ := vals1 r
    exact call_int_int ⟨.int i, H, I, ⟨_, rfl⟩, q⟩
  · obtain ⟨u, rfl, r1⟩ := vals1 r
    cases r1
    exact call_int_bool ⟨.int (if k then 1 else 0), H, I.tok _, ⟨_, rfl⟩, q⟩
theorem call_bool1 : CallR X (.type "bool") (fun xs H Q => (∃ i, xs = [.int i] ∧ Q (.bl (i != 0)) H) ∨ ∃ k, xs = [.bl k] ∧ Q (.bl k) H) := by
  intro pins s σ H xs us Q I r h
  rcases h with ⟨i, rfl, q⟩ | ⟨k, rfl, q⟩
  · obtain ⟨u, rfl, t, rfl⟩ := vals1 r
    exact call_bool_int ⟨.bl (i != 0), H, I, rfl, q⟩
  · obtain ⟨u, rfl, r1⟩ := vals1 r
    cases r1
    exact call_bool_bool ⟨.bl k, H, I, rfl, q⟩
theorem call_str_int : CallR X (.type "str") (fun xs H Q => ∃ i, xs = [.int i] ∧ i.natAbs.log2 < 1920 ∧ Q (.str (toString i)) H) := by
  intro pins s σ H xs us Q I r h
  obtain ⟨i, rfl, hz, q⟩ := h
  obtain ⟨u, rfl, t, rfl⟩ := vals1 r
  exact PySem.P.str_of_int hz ⟨.str _, H, I.tok _, ⟨_, rfl⟩, q⟩
theorem call_ord : CallR X (.builtin "ord") (fun xs H Q => ∃ x, xs = [.str x] ∧ x.length = 1 ∧ Q (.int (x.cps.getD 0 0 : Nat)) H) := by
  intro pins s σ H xs us Q I r h
  obtain ⟨x, rfl, hz, q⟩ := h
  obtain ⟨u, rfl, t, rfl⟩ := vals1 r
  exact ord_of_one hz ⟨.int _, H, I.tok _, ⟨_, rfl⟩, q⟩
theorem call_chr : CallR X (.builtin "chr") (fun xs H Q => ∃ i, xs = [.int i] ∧ 0 ≤ i ∧ i ≤ 1114111 ∧ Q (.str ⟨#[i.toNat]⟩) H) := by
  intro pins s σ H xs us Q I r h
  obtain ⟨i, rfl, h0, h1, q⟩ := h
  obtain ⟨u, rfl, t, rfl⟩ := vals1 r
  exact chr_of_range h0 h1 ⟨.str _, H, I.tok _, ⟨_, rfl⟩, q⟩
/-- len of a str, a bytes, a list, a tuple -/
def LenV (K : PySem.W.Frag) (x : V) (H : Hp) (n : Nat) : Prop :=
  match x with
  | .str y => y.length ≤ sizeLine ∧ n = y.length
  | .byt y => y.size ≤ sizeLine ∧ n = y.size
  | .ref p => (∃ xs, SqL K H p xs ∧ n = xs.length) ∨ ∃ xs, SqT K H p xs ∧ n = xs.length
  | _ => False
theorem call_len : CallR X (.builtin "len") (fun xs H Q => ∃ x n, xs = [x] ∧ LenV X.K x H n ∧ Q (.int n) H) := by
  intro pins s σ H xs us Q I r h
  obtain ⟨x, n, rfl, e, q⟩ := h
  obtain ⟨u, rfl, rx⟩ := vals1 r
  have hl := line63
  have hs : sizeLine = 16777216 := sizeLine_eq
  cases x with
  | str y =>
    obtain ⟨t, rfl⟩ := rx
    obtain ⟨hy, e'⟩ : y.length ≤ sizeLine ∧ n = y.length := e
    subst e'
    exact len_str (by omega) ⟨.int _, H, I.tok _, ⟨_, rfl⟩, q⟩
  | byt y =>
    obtain ⟨t, rfl⟩ := rx
    obtain ⟨hy, e'⟩ : y.size ≤ sizeLine ∧ n = y.size := e
    subst e'
    exact PySem.W.len_bytes (by omega) ⟨.int _, H, I.tok _, ⟨_, rfl⟩, q⟩
  | ref p =>
    cases rx
    have e' : (∃ xs, SqL X.K H p xs ∧ n = xs.length) ∨ ∃ xs, SqT X.K H p xs ∧ n = xs.length := e
    rcases e' with ⟨xs, hx, e'⟩ | ⟨xs, hx, e'⟩
    · subst e'
      obtain ⟨its, r', pl, hz⟩ := I.list hx
      have hlen := r'.length
      exact Calls.call_len_list pl.isList (by simp only [List.size_toArray]; omega) ⟨.int xs.length, H, I.tok _, ⟨_, by simp only [List.size_toArray]; rw [hlen]⟩, q⟩
    · subst e'
      obtain ⟨its, r', pl, hz⟩ := I.tuple hx
      have hlen := r'.length
      exact len_tuple pl (by simp only [List.size_toArray]; omega) ⟨.int xs.length, H, I.tok _, ⟨_, by simp only [List.size_toArray]; rw [hlen]⟩, q⟩
  | _ => exact (show False from e).elim
/-- divmod: a new tuple -/
theorem call_divmod : CallR X (.builtin "divmod") (fun xs H Q => ∃ i j, xs = [.int i, .int j] ∧ CDiv i j ∧ ∀ p, H p = none → Q (.ref p) (upd H p (.tup [.int (i / j), .int (i % j)]))) := by
  intro pins s σ H xs us Q I r h
  obtain ⟨i, j, rfl, ⟨h1, h2⟩, q⟩ := h
  obtain ⟨u, w', rfl, ⟨t, rfl⟩, ⟨t', rfl⟩⟩ := vals2 r
  refine divmod_int (by omega) ?_ (.inl (PyProof.noPylong_small (by omega)))
  rw [Int.fdiv_eq_ediv_of_nonneg i (by omega), Int.fmod_eq_emod_of_nonneg i (by omega)]
  have hn : H s.heap.objs.size = none := I.hok.fresh (Nat.le_refl _)
  refine ⟨.ref s.heap.objs.size, _, ?_, rfl, q _ hn⟩
  refine I.laid (fun b o e => Heap.get?_push_of_some _ e) (Nat.le_refl _) ⟨by simp only [List.length_cons, List.length_nil]; rw [sizeLine_eq]; decide, [.int (i / j) s.toks, .int (i % j) (s.toks + 1)], .cons ⟨_, rfl⟩ (.cons ⟨_, rfl⟩ .nil), ?_⟩
  exact ⟨_, Heap.get?_push_size s.heap rfl, rfl, 0, rfl⟩
end
end L2

namespace L2
open PySem PySem.Spec PyProof.Rows

/-! ### an instance, its attributes a map -/
structure ObjM (h : Heap) (x dx C : Addr) (mA : Str → Option Value) : Prop where
  obj : h.get? x = some (PySem.W.instObj C dx)
  ns : h.Ns1 dx mA
  ne : dx ≠ x

theorem lookIn_ns {h : Heap} {dx : Addr} {mA : Str → Option Value} (n : h.Ns1 dx mA) : ∃ od, h.get? dx = some od ∧ ∀ name, PySem.W.lookIn name od = some (mA name) := by
  obtain ⟨o, es, ep, ho, hd, hk, _, hm⟩ := n
  refine ⟨o, ho, fun name => ?_⟩
  have e := hm name
  unfold nsFind findBy at e
  rw [← Array.find?_toList] at e
  unfold PySem.W.lookIn
  rw [hd]
  dsimp only
  split
  · rename_i y q
    rw [q] at e
    exact congrArg some e
  · rename_i q
    rw [q] at e
    have a : es.toList.any (·.refKey) = false := by
      rw [List.any_eq_false]
      intro y hy
      obtain ⟨z, t, hkey⟩ := hk y (Array.mem_toList_iff.mp hy)
      simp [DictEntry.refKey, hkey]
    have a' : ¬ es.toList.any (·.refKey) = true := by rw [a]; exact Bool.false_ne_true
    rw [if_neg a']
    exact congrArg some e

theorem ObjM.look {h : Heap} {x dx C : Addr} {mA : Str → Option Value} (I : ObjM h x dx C mA) : ∃ od, PySem.W.InstAt h x (PySem.W.instObj C dx) C (some od) ∧ ∀ name, PySem.W.lookIn name od = some (mA name) :=
  let ⟨od, ho, hl⟩ := lookIn_ns I.ns
  ⟨od, ⟨I.obj, rfl, rfl, ho⟩, hl⟩

section
variable {prog : Program} {w : World} {A : Around} {E : Value → Shared → Prop} {s : Shared} {K : PySem.W.Frag} {x dx C f : Addr} {mA : Str → Option Value} {name : Str} {v : Value}

theorem get_map {expr : Bool} {Q : Value → Shared → Prop} (X : K.In s.heap) (I : ObjM s.heap x dx C mA) (hg : PySem.W.plainGet K C name = true) (hh : PySem.W.hasDictIn K C = true)
    (ha : PySem.W.findIn K (.ref C) name = some none) (hv : mA name = some v) (hv' : PySem.W.handedIn v = true) (h : Q v { s with toks := s.toks + 1 }) :
    wpAny (model prog w) A (getAttr (.ref x) name expr) Q E s := by
  obtain ⟨od, J, hl⟩ := I.look
  exact PySem.W.get_value X J (PySem.W.plainGet_of hg).1 (PySem.W.findObj_own hh ha rfl (by rw [hl, hv])) hv' h

theorem get_const {expr : Bool} {a : Value} {Q : Value → Shared → Prop} (X : K.In s.heap) (I : ObjM s.heap x dx C mA) (hg : PySem.W.plainGet K C name = true) (hh : PySem.W.hasDictIn K C = true)
    (ha : PySem.W.findIn K (.ref C) name = some (some a)) (hn : PySem.W.specialIn K a "__get__" = some none) (hc : PySem.W.copiedNames.contains name = false) (hv : mA name = none) (hv' : PySem.W.handedIn a = true)
    (h : Q a { s with toks := s.toks + 1 }) : wpAny (model prog w) A (getAttr (.ref x) name expr) Q E s := by
  obtain ⟨od, J, hl⟩ := I.look
  exact PySem.W.get_value X J (PySem.W.plainGet_of hg).1 (PySem.W.findObj_cls hh ha hn hv' hc (by rw [hl, hv])) hv' h

theorem get_meth {pl : Sem Bool} {Q : Value × List Value → Shared → Prop} (X : K.In s.heap) (I : ObjM s.heap x dx C mA) (hg : PySem.W.plainGet K C name = true)
    (hf : PySem.W.findIn K (.ref C) name = some (some (.ref f))) (ht : PySem.W.isFn K (.ref f) = true) (hv : mA name = none) (h : Q (.ref f, [.ref x]) s) :
    wpAny (model prog w) A (getMethod (.ref x) name pl) Q E s := by
  obtain ⟨od, J, hl⟩ := I.look
  exact PySem.W.method_fn X J (PySem.W.plainGet_of hg).1 (PySem.W.plainGet_of hg).2 hf (beq_iff_eq.mp ht) (by show (PySem.W.lookIn name od).map (·.isSome) = some false; rw [hl, hv]; rfl) h

theorem set_map {ns : List Str} {Q : Unit → Shared → Prop} (X : K.In s.heap) (I : ObjM s.heap x dx C mA)
    (hs : PySem.W.findIn K (.ref C) "__setattr__" = some (some (.builtin "object.__setattr__"))) (hp : PySem.W.plainOver K C = true) (ht : PySem.W.takerIn K C name = some none) (hh : PySem.W.hasDictIn K C = true)
    (hw : PySem.Within mA ns) (hsz : ns.length ≤ sizeLine)
    (h : ∀ h', ObjM h' x dx C (fun y => if y = name then some v else mA y) → Heap.SameBut dx s.heap h' → Q () { s with heap := h', toks := s.toks + 2 }) :
    wpAny (model prog w) A (setAttr (.ref x) name v) Q E s := by
  obtain ⟨od, J, hl⟩ := I.look
  refine PySem.W.set_plain X J hs (PySem.W.osa_open (s := { s with toks := s.toks + 1 }) (r := none) X J hp ht fun b => ?_)
  obtain ⟨cd, hc, hd'⟩ := PySem.W.any_some hh
  have hx : s.heap.get? x = some ⟨.ref C, some dx, .plain, #[]⟩ := I.obj
  refine wpAny_bind (wpAny_pure (wpAny_bind (wpAny_bind (wpAny_loadPart hx (wpAny_bind (PySem.W.Looks.here (s := { s with toks := s.toks + 1 }) (PySem.W.looks_clsIn X hc) ?_))))))
  rw [hd']
  refine wpAny_pure (a := some dx) (wpAny_bind (wpAny_pure (wpAny_bind ?_)))
  refine wpAny_nsSet1 (s := { s with toks := s.toks + 1 }) I.ns fun h' hn2 hs2 => ?_
  obtain ⟨oD, esD, epD, hoD, hdD, hcD⟩ := hn2.count (PySem.Within.cons name v hw)
  refine wpAny_bind (wpAny_lookBehind hoD (by rw [hdD]; exact pastItsLine_dict (Nat.le_trans hcD (by rw [List.length_cons]; omega))) ?_)
  exact wpAny_pure (h _ ⟨(hs2.2 _ (Ne.symm I.ne)).trans I.obj, hn2, I.ne⟩ hs2)

/-- C(..): the dict at the heap's end, the instance behind it; then its __init__ -/
theorem make_map {R : Result → Shared → Prop} {vs : List Value} {kw : List (Str × Value)} (X : K.In s.heap) (hm : PySem.W.makesIn K C = true)
    (hi : PySem.W.findIn K (.ref C) "__init__" = some (some (.ref f))) (hf : PySem.W.typeIn K (.ref f) = some (.type "function"))
    (h : codeAny (model prog w) (A.under (.builtin "type.__call__" ⟨.ref C :: vs, kw⟩)) (.call (.ref f) ⟨.ref (s.heap.objs.size + 1) :: vs, kw⟩) (PySem.W.InitBack (s.heap.objs.size + 1) R)
      { s with heap := (s.heap.push PySem.W.emptyDict).push (PySem.W.instObj C s.heap.objs.size) }) :
    codeAny (model prog w) A (.call (.ref C) ⟨vs, kw⟩) R s := by
  obtain ⟨hh, g, d, t, os⟩ := s
  exact PySem.W.make_core (PySem.W.makes_of X hm) (PySem.W.looks_findIn X hi) (fun self => PySem.W.bind_fn X self hf) (.inl rfl) h
/-- C() where there is no __init__ but object's -/
theorem make_map0 {R : Result → Shared → Prop} (X : K.In s.heap) (hm : PySem.W.makesIn K C = true)
    (hi : PySem.W.findIn K (.ref C) "__init__" = some (some (.builtin "object.__init__")))
    (hb : ∀ self, PySem.W.Looks (model prog w) s.heap (bindSpecial (.builtin "object.__init__") self) (.builtin "object.__init__", [self]))
    (h : codeAny (model prog w) (A.under (.builtin "type.__call__" ⟨[.ref C], []⟩)) (.call (.builtin "object.__init__") ⟨[.ref (s.heap.objs.size + 1)], []⟩) (PySem.W.InitBack (s.heap.objs.size + 1) R)
      { s with heap := (s.heap.push PySem.W.emptyDict).push (PySem.W.instObj C s.heap.objs.size) }) :
    codeAny (model prog w) A (.call (.ref C) ⟨[], []⟩) R s := by
  obtain ⟨hh, g, d, t, os⟩ := s
  exact PySem.W.make_core (PySem.W.makes_of X hm) (PySem.W.looks_findIn X hi) hb (.inr ⟨rfl, rfl⟩) h
end

/-! ### the attributes as a list of pairs -/
def putF (f : Str) (v : V) : List (Str × V) → List (Str × V)
  | [] => [(f, v)]
  | (g, x) :: r => if g = f then (g, v) :: r else (g, x) :: putF f v r
theorem lookup_putF (f g : Str) (v : V) : ∀ fs : List (Str × V), (putF f v fs).lookup g = if g = f then some v else fs.lookup g
  | [] => by
    show List.lookup g [(f, v)] = _
    by_cases h : g = f
    · have hb : (g == f) = true := beq_iff_eq.mpr h
      simp only [List.lookup, hb, if_pos h]
    · have hb : (g == f) = false := beq_eq_false_iff_ne.mpr h
      simp only [List.lookup, hb, if_neg h]
  | (k, x) :: r => by
    have ih := lookup_putF f g v r
    rw [show putF f v ((k, x) :: r) = (if k = f then (k, v) :: r else (k, x) :: putF f v r) from rfl]
    by_cases hk : k = f
    · rw [if_pos hk]
      by_cases h : g = k
      · have hb : (g == k) = true := beq_iff_eq.mpr h
        simp only [List.lookup, hb, if_pos (h.trans hk)]
      · have hb : (g == k) = false := beq_eq_false_iff_ne.mpr h
        simp only [List.lookup, hb, if_neg (fun e : g = f => h (e.trans hk.symm))]
    · rw [if_neg hk]
      by_cases h : g = k
      · have hb : (g == k) = true := beq_iff_eq.mpr h
        simp only [List.lookup, hb, if_neg (fun e : g = f => hk (h.symm.trans e))]
      · have hb : (g == k) = false := beq_eq_false_iff_ne.mpr h
        simp only [List.lookup, hb]
        exact ih
theorem keys_putF (f : Str) (v : V) : ∀ fs : List (Str × V), f ∈ (putF f v fs).map (·.1) ∧ ∀ g, g ∈ fs.map (·.1) → g ∈ (putF f v fs).map (·.1)
  | [] => ⟨by simp [putF], fun g h => by simp at h⟩
  | (k, x) :: r => by
    obtain ⟨i1, i2⟩ := keys_putF f v r
    rw [show putF f v ((k, x) :: r) = (if k = f then (k, v) :: r else (k, x) :: putF f v r) from rfl]
    by_cases hk : k = f
    · rw [if_pos hk]
      subst hk
      exact ⟨by simp, fun g h => by simpa using h⟩
    · rw [if_neg hk]
      refine ⟨?_, fun g h => ?_⟩
      · rw [List.map_cons]
        exact List.mem_cons_of_mem _ i1
      · rw [List.map_cons] at h ⊢
        rcases List.mem_cons.mp h with e | e
        · exact List.mem_cons.mpr (.inl e)
        · exact List.mem_cons_of_mem _ (i2 g e)
theorem length_putF (f : Str) (v : V) : ∀ fs : List (Str × V), (putF f v fs).length ≤ fs.length + 1
  | [] => by simp [putF]
  | (k, x) :: r => by
    have ih := length_putF f v r
    rw [show putF f v ((k, x) :: r) = (if k = f then (k, v) :: r else (k, x) :: putF f v r) from rfl]
    by_cases hk : k = f
    · rw [if_pos hk, List.length_cons, List.length_cons]; omega
    · rw [if_neg hk, List.length_cons, List.length_cons]; omega

theorem RelO.some_of {v : V} {o : Option Value} (r : RelO (some v) o) : ∃ u, o = some u ∧ RelV v u := by
  cases o with
  | none => exact (show False from r).elim
  | some u => exact ⟨u, rfl, r⟩
theorem RelO.none_of {o : Option Value} (r : RelO none o) : o = none := by
  cases o with
  | none => rfl
  | some u => exact (show False from r).elim
theorem handed_of {v : V} {u : Value} (r : RelV v u) : PySem.W.handedIn u = true := by
  cases v with
  | non => cases (show u = Value.none from r); rfl
  | bl b => cases (show u = Value.bool b from r); rfl
  | int i => obtain ⟨t, e⟩ := (show ∃ t, u = Value.int i t from r); cases e; rfl
  | str x => obtain ⟨t, e⟩ := (show ∃ t, u = Value.str x t from r); cases e; rfl
  | byt b => obtain ⟨t, e⟩ := (show ∃ t, u = Value.bytes b t from r); cases e; rfl
  | flt b => obtain ⟨t, e⟩ := (show ∃ t, u = Value.float b t from r); cases e; rfl
  | ref a => cases (show u = Value.ref a from r); rfl
  | ty n => cases (show u = Value.type n from r); rfl

section
variable {P : Program} {w : World} {H H' : Hp} {h h' : Heap} {a C dx : Addr} {fs fs' : List (Str × V)}
theorem ins_get (hok : HOk P w H h) (e : H a = some (.ins C dx fs)) : ∃ mA, ObjM h a dx C mA ∧ (∀ f, RelO (fs.lookup f) (mA f)) ∧ PySem.Within mA (fs.map (·.1)) ∧ fs.length ≤ 1000 ∧ H dx = some (.own a) := by
  obtain ⟨d, z, ne, ob, mA, n, r, q⟩ := (show ObjOk P w H h a (.ins C dx fs) from hok a _ e)
  exact ⟨mA, ⟨ob, n, ne⟩, r, q, z, d⟩
end

/-! ### what of the text a class must have -/
structure Cls (K : PySem.W.Frag) (C : Addr) : Prop where
  pg : PySem.W.plainGet K C Str.empty = true
  hd : PySem.W.hasDictIn K C = true
  po : PySem.W.plainOver K C = true
  sa : PySem.W.findIn K (.ref C) "__setattr__" = some (some (.builtin "object.__setattr__"))
theorem Cls.get {K : PySem.W.Frag} {C : Addr} (c : Cls K C) (f : Str) : PySem.W.plainGet K C f = true := c.pg
/-- no class of it has the name -/
def NoAttr (K : PySem.W.Frag) (C : Addr) (f : Str) : Prop := PySem.W.findIn K (.ref C) f = some none
theorem NoAttr.taker {K : PySem.W.Frag} {C : Addr} {f : Str} (n : NoAttr K C f) : PySem.W.takerIn K C f = some none := by
  unfold PySem.W.takerIn
  rw [show PySem.W.findIn K (.ref C) f = some none from n]
  rfl
/-- a constant of the class -/
structure Con (K : PySem.W.Frag) (C : Addr) (f : Str) (v : V) (u : Value) : Prop where
  at_ : PySem.W.findIn K (.ref C) f = some (some u)
  rel : RelV v u
  get : PySem.W.specialIn K u "__get__" = some none
  cp : PySem.W.copiedNames.contains f = false
/-- a method: a plain def of the class or of one above it -/
structure Meth (K : PySem.W.Frag) (C : Addr) (m : Str) (f : Addr) : Prop where
  at_ : PySem.W.findIn K (.ref C) m = some (some (.ref f))
  fn : PySem.W.isFn K (.ref f) = true
  kp : PySem.W.keepIn K (.ref f) = true

section
variable {X : Cx} {pins : List (Addr × Obj)} {σ : St} {H : Hp} {s : Shared} {a C dx : Addr} {fs : List (Str × V)} {f : Str} {v : V} {A : Around} {E : Value → Shared → Prop}

theorem getattr_ok {b : Bool} {Q : Value → Shared → Prop} (I : Inv X pins σ H s) (e : H a = some (.ins C dx fs)) (c : Cls X.K C) (n : NoAttr X.K C f) (l : fs.lookup f = some v)
    (h : ∀ u s', Inv X pins σ H s' → RelV v u → Q u s') : wpAny (model X.prog X.w) A (getAttr (.ref a) f b) Q E s := by
  obtain ⟨mA, O, r, _, _, _⟩ := ins_get I.hok e
  obtain ⟨u, hu, ru⟩ := RelO.some_of (v := v) (o := mA f) (by rw [← l]; exact r f)
  exact get_map I.kIn O (c.get f) c.hd n hu (handed_of ru) (h u _ (I.tok _) ru)

theorem getcon_ok {b : Bool} {u : Value} {Q : Value → Shared → Prop} (I : Inv X pins σ H s) (e : H a = some (.ins C dx fs)) (c : Cls X.K C) (k : Con X.K C f v u) (l : fs.lookup f = none)
    (h : ∀ s', Inv X pins σ H s' → Q u s') : wpAny (model X.prog X.w) A (getAttr (.ref a) f b) Q E s := by
  obtain ⟨mA, O, r, _, _, _⟩ := ins_get I.hok e
  have hn : mA f = none := RelO.none_of (by rw [← l]; exact r f)
  exact get_const I.kIn O (c.get f) c.hd k.at_ k.get k.cp hn (handed_of k.rel) (h _ (I.tok _))

theorem getmeth_ok {m : Str} {g : Addr} {pl : Sem Bool} {Q : Value × List Value → Shared → Prop} (I : Inv X pins σ H s) (e : H a = some (.ins C dx fs)) (c : Cls X.K C) (k : Meth X.K C m g) (l : fs.lookup m = none)
    (h : Q (.ref g, [.ref a]) s) : wpAny (model X.prog X.w) A (getMethod (.ref a) m pl) Q E s := by
  obtain ⟨mA, O, r, _, _, _⟩ := ins_get I.hok e
  have hn : mA m = none := RelO.none_of (by rw [← l]; exact r m)
  exact get_meth I.kIn O (c.get m) k.at_ k.fn hn h

theorem setattr_ok {y : V} {u : Value} {Q : Unit → Shared → Prop} (I : Inv X pins σ H s) (e : H a = some (.ins C dx fs)) (c : Cls X.K C) (n : NoAttr X.K C f) (hl : fs.length < 1000) (ry : RelV y u)
    (h : ∀ s', Inv X pins σ (upd H a (.ins C dx (putF f y fs))) s' → Q () s') : wpAny (model X.prog X.w) A (setAttr (.ref a) f u) Q E s := by
  obtain ⟨mA, O, r, wi, _, ho⟩ := ins_get I.hok e
  have hz : (fs.map (·.1)).length ≤ sizeLine := by rw [List.length_map, sizeLine_eq]; omega
  refine set_map I.kIn O c.sa c.po n.taker c.hd wi hz fun h' O' sb => h _ ?_
  have hd : ∃ o, h'.get? dx = some o := let ⟨o, _, _, e', _⟩ := O'.ns; ⟨o, e'⟩
  refine I.write (x := a) (e := dx) (by rw [e]; exact True.intro) (.inr ho) (fun b q hb z => (sb.2 b hb).trans z) hd ?_
  refine ⟨by rw [upd_ne O.ne]; exact ho, ?_, O.ne, O'.obj, _, O'.ns, fun g => ?_, fun g hg => ?_⟩
  · have := length_putF f y fs; omega
  · show RelO ((putF f y fs).lookup g) (if g = f then some u else mA g)
    rw [lookup_putF]
    by_cases q : g = f
    · rw [if_pos q, if_pos q]; exact ry
    · rw [if_neg q, if_neg q]; exact r g
  · by_cases q : g = f
    · rw [q]; exact (keys_putF f y fs).1
    · refine (keys_putF f y fs).2 g (wi g fun z => hg ?_)
      show (if g = f then some u else mA g) = none
      rw [if_neg q]; exact z

/-- a new instance, tracked, without attributes -/
theorem Inv.made (I : Inv X pins σ H s) : Inv X pins σ (upd (upd H s.heap.objs.size (.own (s.heap.objs.size + 1))) (s.heap.objs.size + 1) (.ins C s.heap.objs.size []))
    { s with heap := (s.heap.push PySem.W.emptyDict).push (PySem.W.instObj C s.heap.objs.size) } := by
  have e1 : (s.heap.push PySem.W.emptyDict).get? s.heap.objs.size = some PySem.W.emptyDict := Heap.get?_push_size s.heap rfl
  have e2 : ((s.heap.push PySem.W.emptyDict).push (PySem.W.instObj C s.heap.objs.size)).get? (s.heap.objs.size + 1) = some (PySem.W.instObj C s.heap.objs.size) := by
    have := Heap.get?_push_size (s.heap.push PySem.W.emptyDict) (o := PySem.W.instObj C s.heap.objs.size) rfl
    rwa [Heap.size_push] at this
  have e3 : (s.heap.push PySem.W.emptyDict).Ns s.heap.objs.size (fun _ => none) := ⟨PySem.W.emptyDict, #[], _, e1, rfl, (fun e he => absurd he (by simp)), fun _ => rfl⟩
  have I1 := I.laid (a := s.heap.objs.size) (o := .own (s.heap.objs.size + 1)) (h' := s.heap.push PySem.W.emptyDict) (t' := s.toks) (fun b u q => Heap.get?_push_of_some _ q) (Nat.le_refl _) ⟨_, e1⟩
  refine I1.laid (a := s.heap.objs.size + 1) (o := .ins C s.heap.objs.size []) (t' := s.toks) (fun b u q => Heap.get?_push_of_some _ q) (Nat.le_of_eq (Heap.size_push _ _)) ?_
  have ne : s.heap.objs.size ≠ s.heap.objs.size + 1 := Nat.ne_of_lt (Nat.lt_succ_self _)
  refine ⟨by rw [upd_ne ne, upd_same], Nat.zero_le _, ne, e2, fun _ => none, (Heap.Ns1.of_empty e3).at fun o q => Heap.get?_push_of_some _ q, fun _ => True.intro, fun y hy => absurd rfl hy⟩

/-- e.f where nothing but the object is asked: through attributeBase (super) and the last hold -/
theorem attr_of {prog : Program} {w : World} {env : Env} {e : Expr} {f : Str} {pos : Pos} {s : Shared} {Q : Value → Shared → Prop} (hb : attributeBase e f env (eval e env) = eval e env)
    (h : wpAny (model prog w) A (eval e env) (fun o s₁ => wpAny (model prog w) A (getAttr o f true) Q E s₁) E s) : wpAny (model prog w) A (eval (.Attribute e f pos) env) Q E s :=
  Attribute_any_ h (by rw [arm_eval_Attribute, hb])
end

/-! ### readings and rules -/
/-- e.f, an attribute of the instance -/
def tFld (K : PySem.W.Frag) (ta : TE) (f : Str) : TE := fun σ H Q => ta σ H fun x H1 => ∃ a C dx fs v, x = .ref a ∧ H1 a = some (.ins C dx fs) ∧ Cls K C ∧ NoAttr K C f ∧ fs.lookup f = some v ∧ Q v H1
/-- e.f, a constant of the class -/
def tCon (K : PySem.W.Frag) (ta : TE) (f : Str) : TE := fun σ H Q => ta σ H fun x H1 => ∃ a C dx fs v u, x = .ref a ∧ H1 a = some (.ins C dx fs) ∧ Cls K C ∧ Con K C f v u ∧ fs.lookup f = none ∧ Q v H1
/-- e.f = value -/
def sFld (K : PySem.W.Frag) (ta tv : TE) (f : Str) : TS := fun D σ H => tv σ H fun y H1 => ta σ H1 fun x H2 => ∃ a C dx fs, x = .ref a ∧ H2 a = some (.ins C dx fs) ∧ Cls K C ∧ NoAttr K C f ∧ fs.length < 1000 ∧
  D.nx σ (upd H2 a (.ins C dx (putF f y fs)))
/-- an augmented operator on two values -/
def InOp (X : Cx) (op : Operator) (rd : V → V → Hp → VK → Prop) : Prop :=
  ∀ (pins : List (Addr × Obj)) (s : Shared) (σ : St) (H : Hp) (x y : V) (u v : Value) (Q : VK), Inv X pins σ H s → RelV x u → RelV y v → rd x y H Q → wpAny (model X.prog X.w) X.A (inplaceOp op u v) (EP X pins σ Q) X.xe s
/-- e.f op= value -/
def sFldAug (K : PySem.W.Frag) (ta tv : TE) (rd : V → V → Hp → VK → Prop) (f : Str) : TS := fun D σ H => ta σ H fun x H1 => ∃ a C dx fs v, x = .ref a ∧ H1 a = some (.ins C dx fs) ∧ Cls K C ∧ NoAttr K C f ∧ fs.lookup f = some v ∧
  tv σ H1 fun y H2 => rd v y H2 fun z H3 => ∃ dx' fs', H3 a = some (.ins C dx' fs') ∧ fs'.length < 1000 ∧ D.nx σ (upd H3 a (.ins C dx' (putF f z fs')))

section
variable {X : Cx} {o e value : Expr} {f : Str} {pos pos' tpos : Pos} {ta tv : TE}
theorem pe_fld (he : PE X e ta) (hb : attributeBase e f X.env (eval e X.env) = eval e X.env) : PE X (.Attribute e f pos) (tFld X.K ta f) := by
  intro pins s σ H Q I h
  refine attr_of hb (thn (he pins s σ H _ I h) fun u s1 ⟨x, H1, I1, rx, a, C, dx, fs, v, ex, ea, c, n, l, q⟩ => ?_)
  subst ex
  obtain rfl : u = Value.ref a := rx
  exact getattr_ok I1 ea c n l fun u' s2 I2 ru => ⟨v, H1, I2, ru, q⟩
theorem pe_con (he : PE X e ta) (hb : attributeBase e f X.env (eval e X.env) = eval e X.env) : PE X (.Attribute e f pos) (tCon X.K ta f) := by
  intro pins s σ H Q I h
  refine attr_of hb (thn (he pins s σ H _ I h) fun u s1 ⟨x, H1, I1, rx, a, C, dx, fs, v, u0, ex, ea, c, k, l, q⟩ => ?_)
  subst ex
  obtain rfl : u = Value.ref a := rx
  exact getcon_ok I1 ea c k l fun s2 I2 => ⟨v, H1, I2, k.rel, q⟩
theorem ps_fld (ha : PE X o ta) (hv : PE X value tv) (hs : swapsWith value (some (.Attribute o f pos')) pos.line X.env = pure false) : PS X (.Assign [.Attribute o f pos'] value pos) (sFld X.K ta tv f) := by
  intro pins s σ H D I h
  refine plainObj_wpAny_Assign_Attribute (thn (hv pins s σ H _ I h) fun u s1 ⟨y, H1, I1, ry, q⟩ => thn (ha pins s1 σ H1 _ I1 q) fun ov s2 ⟨x, H2, I2, rx, a, C, dx, fs, ex, ea, c, n, l, q2⟩ => ?_) hs
  subst ex
  obtain rfl : ov = Value.ref a := rx
  exact setattr_ok I2 ea c n l ry fun s3 I3 => ⟨σ, _, I3, q2⟩
theorem ps_fldaug {op : Operator} {rd : V → V → Hp → VK → Prop} (ha : PE X o ta) (hv : PE X value tv) (hop : InOp X op rd) : PS X (.AugAssign (.Attribute o f tpos) op value pos) (sFldAug X.K ta tv rd f) := by
  intro pins s σ H D I h
  refine wpAny_AugAssign_AttributeAny (thn (ha pins s σ H _ I h) fun ov s1 ⟨x, H1, I1, rx, a, C, dx, fs, v, ex, ea, c, n, l, q⟩ => ?_)
  subst ex
  obtain rfl : ov = Value.ref a := rx
  refine getattr_ok I1 ea c n l fun u s2 I2 ru => thn (hv pins s2 σ H1 _ I2 q) fun w3 s3 ⟨y, H2, I3, ry, q3⟩ => thn (hop pins s3 σ H2 v y u w3 _ I3 ru ry q3) fun w4 s4 ⟨z, H3, I4, rz, dx', fs', ea', l', q4⟩ => ?_
  exact setattr_ok I4 ea' c n l' rz fun s5 I5 => ⟨σ, _, I5, q4⟩
def rAdd : V → V → Hp → VK → Prop := fun x y H Q => ∃ i j, x = .int i ∧ y = .int j ∧ Q (.int (i + j)) H
def rSub : V → V → Hp → VK → Prop := fun x y H Q => ∃ i j, x = .int i ∧ y = .int j ∧ Q (.int (i - j)) H
theorem in_add : InOp X .Add rAdd := by
  rintro pins s σ H x y u v Q I rx ry ⟨i, j, rfl, rfl, q⟩
  obtain ⟨t, rfl⟩ := (show ∃ t, u = Value.int i t from rx)
  obtain ⟨t', rfl⟩ := (show ∃ t', v = Value.int j t' from ry)
  exact PyProof.Rows.iadd_int ⟨.int (i + j), H, I.tok _, ⟨_, rfl⟩, q⟩
theorem in_sub : InOp X .Sub rSub := by
  rintro pins s σ H x y u v Q I rx ry ⟨i, j, rfl, rfl, q⟩
  obtain ⟨t, rfl⟩ := (show ∃ t, u = Value.int i t from rx)
  obtain ⟨t', rfl⟩ := (show ∃ t', v = Value.int j t' from ry)
  exact PyProof.Rows.isub_int ⟨.int (i - j), H, I.tok _, ⟨_, rfl⟩, q⟩

/-- what is between an instance and its method: the tree of a method call -/
theorem methcall_of {pl : Sem Bool} {m : Str} {apos : Pos} {args : List Expr} {pins : List (Addr × Obj)} {s : Shared} {σ : St} {H : Hp} {Q : Value → Shared → Prop} {te : TE} (he : PE X e te) (I : Inv X pins σ H s)
    (h : te σ H fun x H1 => ∃ a C dx fs g, x = .ref a ∧ H1 a = some (.ins C dx fs) ∧ Cls X.K C ∧ Meth X.K C m g ∧ fs.lookup m = none ∧
      ∀ s1, Inv X pins σ H1 s1 → wpAny (model X.prog X.w) X.A (callWith pos (.ref g) [.ref a] (backTo pos (starEach args X.env)) (backToKw pos (keywordEach [] X.env))) Q X.xe s1)
    (ht : eval (.Call (.Attribute e m apos) args [] pos) X.env = (do
      let ov ← eval e X.env
      standAt apos.atName
      let (f, first) ← holding [ov] (getMethod ov m pl)
      callWith pos f first (backTo pos (starEach args X.env)) (backToKw pos (keywordEach [] X.env)))) :
    wpAny (model X.prog X.w) X.A (eval (.Call (.Attribute e m apos) args [] pos) X.env) Q X.xe s := by
  refine PySem.W.methodCall_KW (pl := pl) (thn (he pins s σ H _ I h) fun u s1 ⟨x, H1, I1, rx, a, C, dx, fs, g, ex, ea, c, k, l, q⟩ => ?_) ht
  subst ex
  obtain rfl : u = Value.ref a := rx
  exact getmeth_ok I1 ea c k l (q s1 I1)
end

/-! ### isinstance -/
section
variable {X : Cx} {pins : List (Addr × Obj)} {σ : St} {H : Hp} {s : Shared} {A : Around} {E : Value → Shared → Prop} {Q : Value → Shared → Prop} {c : Value} {b : Bool}
/-- the type of a value, as the fragment's deciders take it; for an instance its class -/
inductive TyOf (K : PySem.W.Frag) (H : Hp) : V → Value → Prop where
  | non : TyOf K H .non (.type "NoneType")
  | bl (x : Bool) : TyOf K H (.bl x) (.type "bool")
  | int (i : Int) : TyOf K H (.int i) (.type "int")
  | str (x : Str) : TyOf K H (.str x) (.type "str")
  | flt (x : UInt64) : TyOf K H (.flt x) (.type "float")
  | lst {a : Addr} {xs : List V} (e : H a = some (.lst xs)) : TyOf K H (.ref a) (.type "list")
  | frz {a : Addr} {o : Obj} {xs : List V} (e : H a = some (.frz o (.lst xs))) : TyOf K H (.ref a) (.type "list")
  | tup {a : Addr} {xs : List V} (e : H a = some (.tup xs)) : TyOf K H (.ref a) (.type "tuple")
  | dK {a : Addr} {kvs : List (Key × V)} (e : H a = some (.dK kvs)) : TyOf K H (.ref a) (.type "dict")
  | dT {a : Addr} {kvs : List (List Key × V)} (e : H a = some (.dT kvs)) : TyOf K H (.ref a) (.type "dict")
  | ins {a C dx : Addr} {fs : List (Str × V)} (e : H a = some (.ins C dx fs)) (cl : Cls K C) (ha : PySem.W.findIn K (.ref C) "__class__" = some (some (.builtin "object.__class__")))
      (hn : PySem.W.specialIn K (.builtin "object.__class__") "__get__" = some (some (.builtin "getset_descriptor.__get__"))) (htk : PySem.W.takesIn K (.builtin "object.__class__") = some true)
      (hm : PySem.W.mroIn K C (.type "object") = some true) : TyOf K H (.ref a) (.ref C)
/-- isinstance(x, c) for one class c, a built-in or an own one: kitOne's answer -/
theorem isinst_ok {x : V} {u t : Value} (I : Inv X pins σ H s) (rx : RelV x u) (ty : TyOf X.K H x t) (e : PySem.W.kitOne X.K t c = some b) (h : ∀ tk, Q (.bool b) { s with toks := tk }) :
    wpAny (model X.prog X.w) A (call (.builtin "isinstance") [u, c]) Q E s := by
  cases ty with
  | non => cases (show u = Value.none from rx); exact PySem.W.kia_one PySem.W.kitx_none I.kIn True.intro e (fun z => nomatch z) h
  | bl y => cases (show u = Value.bool y from rx); exact PySem.W.kia_one PySem.W.kitx_bool I.kIn True.intro e (fun z => nomatch z) h
  | int i => obtain ⟨t, q⟩ := (show ∃ t, u = Value.int i t from rx); cases q; exact PySem.W.kia_one PySem.W.kitx_int I.kIn True.intro e (fun z => nomatch z) h
  | str y => obtain ⟨t, q⟩ := (show ∃ t, u = Value.str y t from rx); cases q; exact PySem.W.kia_one PySem.W.kitx_str I.kIn True.intro e (fun z => nomatch z) h
  | flt y => obtain ⟨t, q⟩ := (show ∃ t, u = Value.float y t from rx); cases q; exact PySem.W.kia_one PySem.W.kitx_float I.kIn True.intro e (fun z => nomatch z) h
  | @lst a xs ea =>
    cases (show u = Value.ref a from rx)
    obtain ⟨_, _, n, _, h1⟩ := (show ObjOk X.prog X.w H s.heap a (.lst xs) from I.hok a _ ea)
    exact PySem.W.kia_one PySem.W.kitx_list I.kIn ⟨_, h1, rfl⟩ e (fun z => nomatch z) h
  | @frz a ob xs ea =>
    cases (show u = Value.ref a from rx)
    obtain ⟨_, _, _, n, _, h1⟩ := (show ObjOk X.prog X.w H s.heap a (.frz ob (.lst xs)) from I.hok a _ ea)
    exact PySem.W.kia_one PySem.W.kitx_list I.kIn ⟨_, h1, rfl⟩ e (fun z => nomatch z) h
  | @tup a xs ea =>
    cases (show u = Value.ref a from rx)
    obtain ⟨_, _, _, p⟩ := (show ObjOk X.prog X.w H s.heap a (.tup xs) from I.hok a _ ea)
    obtain ⟨o, h1, h2, _⟩ := p
    exact PySem.W.kia_one PySem.W.kitx_tuple I.kIn ⟨o, h1, h2⟩ e (fun z => nomatch z) h
  | @dK a kvs ea =>
    cases (show u = Value.ref a from rx)
    obtain ⟨_, _, vs, _, p⟩ := (show ObjOk X.prog X.w H s.heap a (.dK kvs) from I.hok a _ ea)
    obtain ⟨o, es, ep, h1, h2, _⟩ := p
    exact PySem.W.kia_one PySem.W.kitx_dict I.kIn ⟨o, h1, h2.1⟩ e (fun z => nomatch z) h
  | @dT a kvs ea =>
    cases (show u = Value.ref a from rx)
    obtain ⟨_, _, xs, _, o, es, ep, h1, h2, _⟩ := (show ObjOk X.prog X.w H s.heap a (.dT kvs) from I.hok a _ ea)
    exact PySem.W.kia_one PySem.W.kitx_dict I.kIn ⟨o, h1, h2.1⟩ e (fun z => nomatch z) h
  | @ins a C dx fs ea cl ha hn htk hm =>
    cases (show u = Value.ref a from rx)
    obtain ⟨mA, O, _⟩ := ins_get I.hok ea
    obtain ⟨od, J, _⟩ := O.look
    exact PySem.W.kia_one (PySem.W.kitx_own (cl.get _) cl.hd ha hn htk hm) I.kIn J e (fun z => nomatch z) h
end
end L2

namespace L2
open PySem PySem.Spec PyProof.Rows

/-! ### room -/
structure Room (k : Nat) (A : Around) : Prop where
  hd : A.handled = none
  dp : A.depth + 3 * k + 5 < recursionLimit
  un : A.units + 16 * k + 200 < cLine
theorem Room.mono {j k : Nat} {A : Around} (r : Room k A) (h : j ≤ k) : Room j A := ⟨r.hd, by have := r.dp; omega, by have := r.un; omega⟩
theorem Room.deeper {k : Nat} {A : Around} (r : Room (k + 1) A) (env : Env) : Room k (A.deeper env) :=
  ⟨r.hd, by have := r.dp; show A.depth + 1 + 3 * k + 5 < _; omega, by have := r.un; show A.units + 3 + 16 * k + 200 < _; omega⟩
theorem Room.in1 {k : Nat} {A : Around} (r : Room (k + 1) A) : Room k A.in1 :=
  ⟨r.hd, by have := r.dp; show A.depth + 3 * k + 5 < _; omega, by have := r.un; show A.units + 1 + 16 * k + 200 < _; omega⟩
theorem make_depth {A : Around} {C : Addr} {us : List Value} {kw : List (Str × Value)} : (A.under (.builtin "type.__call__" ⟨.ref C :: us, kw⟩)).depth = A.depth + 1 := by
  first | rfl | simp [Around.under, Code.weight, Code.isCreation, Code.isGuard, Code.isCaller, Code.frames, Code.isFrame, guardIds]
theorem make_units {A : Around} {C : Addr} {us : List Value} {kw : List (Str × Value)} : (A.under (.builtin "type.__call__" ⟨.ref C :: us, kw⟩)).units = A.units + 1 := by
  first | rfl | simp [Around.under, Code.cUnits, Code.frames, Code.isFrame]
theorem Room.make {k : Nat} {A : Around} (r : Room (k + 1) A) (C : Addr) (us : List Value) (kw : List (Str × Value)) : Room k (A.under (.builtin "type.__call__" ⟨.ref C :: us, kw⟩)) :=
  ⟨r.hd, by have := r.dp; rw [make_depth]; omega, by have := r.un; rw [make_units]; omega⟩
theorem Room.depth {k : Nat} {A : Around} (r : Room k A) : A.depth < recursionLimit := by have := r.dp; omega
theorem Room.units {k : Nat} {A : Around} (r : Room k A) : A.units + 64 < cLine := by have := r.un; omega
theorem Room.units0 {k : Nat} {A : Around} (r : Room k A) : A.units < cLine := by have := r.un; omega

/-! ### argument lists and displays -/
def tNil : TA := fun _ H Q => Q [] H
def tCons (ta : TE) (tr : TA) : TA := fun σ H Q => ta σ H fun x H1 => tr σ H1 fun xs H2 => Q (x :: xs) H2
section
variable {X : Cx} {e : Expr} {es : List Expr} {te : TE} {t : TA} {pos : Pos}
theorem pa_nil : PA X [] tNil := fun _ _ _ _ H Q I h => Calls.spliced_nil ⟨[], H, I, .nil, h⟩
theorem pa_cons (ha : PE X e te) (hr : PA X es t) (hs : starEach (e :: es) X.env = (false, eval e X.env) :: starEach es X.env := by rfl) : PA X (e :: es) (tCons te t) := by
  intro pos pins s σ H Q I h
  rw [hs]
  show wpAny _ _ (spliced ((false, eval e X.env) :: backTo pos (starEach es X.env))) _ _ s
  refine Calls.spliced_cons (thn (ha pins s σ H _ I h) fun u s1 ⟨x, H1, I1, r1, q1⟩ => ?_)
  exact thn (hr pos pins s1 σ H1 _ I1 q1) fun us s2 ⟨xs, H2, I2, r2, q2⟩ => ⟨x :: xs, H2, I2, .cons r1 r2, q2⟩

/-- a tuple, a list of written items -/
def tTup (t : TA) : TE := fun σ H Q => t σ H fun xs H1 => xs.length ≤ sizeLine ∧ ∀ p, H1 p = none → Q (.ref p) (upd H1 p (.tup xs))
def tLst (t : TA) : TE := fun σ H Q => t σ H fun xs H1 => xs.length ≤ sizeLine ∧ ∀ p, H1 p = none → Q (.ref p) (upd H1 p (.lst xs))
theorem pe_tup {x1} (h : PA X es t) : PE X (.Tuple es x1 pos) (tTup t) := by
  intro pins s σ H Q I hq
  refine wpAny_Tuple_spliced (thn (h pos pins s σ H _ I hq) fun us s1 ⟨xs, H1, I1, r, z, q⟩ => ⟨by rw [← r.length]; exact z, ?_⟩)
  have hf : H1 s1.heap.objs.size = none := I1.hok.fresh (Nat.le_refl _)
  refine ⟨.ref s1.heap.objs.size, upd H1 s1.heap.objs.size (.tup xs), I1.laid (t' := s1.toks) (fun b u e => Heap.get?_push_of_some _ e) (Nat.le_refl _) ?_, rfl, q _ hf⟩
  exact ⟨z, us, r, ⟨_, Heap.get?_push_size _ rfl, rfl, _, rfl⟩⟩
theorem pe_lst (h : PA X es t) : PE X (.List es pos) (tLst t) := by
  intro pins s σ H Q I hq
  refine wpAny_List_spliced (thn (h pos pins s σ H _ I hq) fun us s1 ⟨xs, H1, I1, r, z, q⟩ => ⟨by rw [← r.length]; exact z, ?_⟩)
  have hf : H1 s1.heap.objs.size = none := I1.hok.fresh (Nat.le_refl _)
  refine ⟨.ref s1.heap.objs.size, upd H1 s1.heap.objs.size (.lst xs), I1.laid (t' := s1.toks) (fun b u e => Heap.get?_push_of_some _ e) (Nat.le_refl _) ?_, rfl, q _ hf⟩
  exact ⟨z, us, 0, r, Heap.get?_push_size _ rfl⟩
end

/-! ### what a def promises -/
/-- a def's promise: the bound arguments in the parameters' order, the heap, the wanted end, the wanted exception -/
abbrev Sp := List V → Hp → VK → XK → Prop
/-- how an exception lies behind a call (file 08 gives it): the callers' frames, abstract heap and state ahead of the call, the wish, the exception, the state -/
abbrev CXT := List Env → Hp → Shared → XK → Value → Shared → Prop

/-- the state at a call -/
structure Env0 (P : Program) (w : World) (K : PySem.W.Frag) (mg : Str → Option Value) (base : Heap) (A : Around) (outer : List Env) (s : Shared) (H : Hp) : Prop where
  frames : A.frames = some outer
  mod : Mod K mg base
  bs : ∀ b o, base.get? b = some o → s.heap.get? b = some o ∧ H b = none
  bsz : base.objs.size ≤ s.heap.objs.size
  funs : s.heap.FunFrames base outer
  frf : ∀ b ∈ frs outer, H b = none
  hok : HOk P w H s.heap
  bare : AllBare s.gens
/-- a call's end -/
def CE (outer : List Env) (P : Program) (w : World) (H : Hp) (s : Shared) (Q : VK) (u : Value) (s' : Shared) : Prop :=
  ∃ v H', s'.os = s.os ∧ AllBare s'.gens ∧ Un (frs outer) [] H H' s.heap s'.heap ∧ HOk P w H' s'.heap ∧ RelV v u ∧ Q v H'
def CR (CX : CXT) (outer : List Env) (P : Program) (w : World) (H : Hp) (s : Shared) (Q : VK) (E : XK) (r : Result) (s' : Shared) : Prop :=
  match r with
  | .ok (.ret u) => CE outer P w H s Q u s'
  | .ok _ => False
  | .error e => CX outer H s E e s'
structure FnOk (P : Program) (w : World) (K : PySem.W.Frag) (mg : Str → Option Value) (base : Heap) (CX : CXT) (k : Nat) (f : Addr) (fd : FuncData) (ps : List Str) (sp : Sp) : Prop where
  len : ∀ vs H Q E, sp vs H Q E → vs.length = ps.length
  run : ∀ (A : Around) (outer : List Env) (s : Shared) (H : Hp) (args : Args) (us : List Value) (vs : List V) (Q : VK) (E : XK), Room k A → Env0 P w K mg base A outer s H → BindsTo s fd args (ps.zip us) → Vals vs us → sp vs H Q E →
    codeAny (model P w) A (.call (.ref f) args) (CR CX outer P w H s Q E) s
theorem FnOk.mono {P : Program} {w : World} {K : PySem.W.Frag} {mg : Str → Option Value} {base : Heap} {CX : CXT} {j k : Nat} {f : Addr} {fd : FuncData} {ps : List Str} {sp : Sp} (F : FnOk P w K mg base CX j f fd ps sp) (h : j ≤ k) :
    FnOk P w K mg base CX k f fd ps sp := ⟨F.len, fun A outer s H args us vs Q E hr => F.run A outer s H args us vs Q E (hr.mono h)⟩
/-- a weaker promise -/
theorem FnOk.imp {P : Program} {w : World} {K : PySem.W.Frag} {mg : Str → Option Value} {base : Heap} {CX : CXT} {k : Nat} {f : Addr} {fd : FuncData} {ps : List Str} {sp sp' : Sp} (F : FnOk P w K mg base CX k f fd ps sp)
    (h : ∀ vs H Q E, sp' vs H Q E → sp vs H Q E) : FnOk P w K mg base CX k f fd ps sp' :=
  ⟨fun vs H Q E q => F.len vs H Q E (h _ _ _ _ q), fun A outer s H args us vs Q E hr he hb hv hs => F.run A outer s H args us vs Q E hr he hb hv (h _ _ _ _ hs)⟩

theorem Env0.make {P : Program} {w : World} {K : PySem.W.Frag} {mg : Str → Option Value} {base : Heap} {A : Around} {outer : List Env} {s : Shared} {H : Hp} (e : Env0 P w K mg base A outer s H) (C : Addr) (us : List Value) (kw : List (Str × Value)) :
    Env0 P w K mg base (A.under (.builtin "type.__call__" ⟨.ref C :: us, kw⟩)) outer s H := ⟨by first | exact e.frames | (simpa [Around.under, Code.envs, Code.isFrame, pushEnvs] using e.frames), e.mod, e.bs, e.bsz, e.funs, e.frf, e.hok, e.bare⟩
theorem Env0.in1 {P : Program} {w : World} {K : PySem.W.Frag} {mg : Str → Option Value} {base : Heap} {A : Around} {outer : List Env} {s : Shared} {H : Hp} (e : Env0 P w K mg base A outer s H) :
    Env0 P w K mg base A.in1 outer s H := ⟨e.frames, e.mod, e.bs, e.bsz, e.funs, e.frf, e.hok, e.bare⟩

section
variable {X : Cx} {pins : List (Addr × Obj)} {σ : St} {H : Hp} {s s' : Shared}
/-- from a body: what a callee wants -/
theorem Inv.env0 (I : Inv X pins σ H s) : Env0 X.prog X.w X.K X.mg X.base X.A X.stack s H :=
  ⟨I.ok.frames, I.ok.mod, I.bs, Nat.le_trans I.ok.bsz I.sz, I.stack, I.stkFree, I.hok, I.bare⟩
/-- behind a call -/
theorem Inv.after {Q : VK} {u : Value} (I : Inv X pins σ H s) (h : CE X.stack X.prog X.w H s Q u s') : EP X pins σ Q u s' := by
  obtain ⟨v, H', os, bare, un, hok, r, q⟩ := h
  obtain ⟨hh, g, d, t, os'⟩ := s'
  obtain rfl : os' = s.os := os
  exact ⟨v, H', I.call (h' := hh) (g' := g) (d' := d) (t' := t) (ch := []) un hok bare (fun b z => absurd z (by simp)), r, q⟩
end

/-! ### calls -/
/-- f(..): the written arguments, then the defaults dvs; E: what is wanted of an exception -/
def tCall (sp : Sp) (dvs : List V) (E : XK) (t : TA) : TE := fun σ H Q => t σ H fun vs H1 => sp (vs ++ dvs) H1 Q E
/-- o.m(..) of an instance of the class at C -/
def tMeth (C : Addr) (m : Str) (sp : Sp) (dvs : List V) (E : XK) (ta : TE) (t : TA) : TE := fun σ H Q => ta σ H fun x H1 => ∃ a dx fs, x = .ref a ∧ H1 a = some (.ins C dx fs) ∧ fs.lookup m = none ∧
  t σ H1 fun vs H2 => sp (x :: (vs ++ dvs)) H2 Q E
/-- C(..): a new instance and its dict, then __init__ -/
def tMake (C : Addr) (sp : Sp) (dvs : List V) (E : XK) (t : TA) : TE := fun σ H Q => t σ H fun vs H1 => ∀ x dx, H1 x = none → H1 dx = none → dx ≠ x →
  sp (.ref x :: (vs ++ dvs)) (upd (upd H1 dx (.own x)) x (.ins C dx [])) (fun v H2 => v = .non ∧ Q (.ref x) H2) E

/-- how the parameters are bound: us the positional arguments, kw the keywords' values by name, ds the defaults that fill up -/
def Binds (K : PySem.W.Frag) (fd : FuncData) (ps : List Str) (ds : List Value) : Prop :=
  ∀ (s : Shared) (us : List Value), K.In s.heap → (us ++ ds).length = ps.length → BindsTo s fd ⟨us, []⟩ (ps.zip (us ++ ds))
/-- every parameter is given -/
theorem Binds.all {K : PySem.W.Frag} {fd : FuncData} {ps : List Str} (h : ∀ us : List Value, us.length = ps.length → bindArgs fd ⟨us, []⟩ = pure (ps.zip us)) : Binds K fd ps [] := fun s us _ hl => by
  rw [List.append_nil] at hl ⊢
  exact .of_eq (h us hl)

/-- an exception of a callee reaches what this body wants of exceptions -/
def Passes (CX : CXT) (X : Cx) (E : XK) : Prop := ∀ (pins : List (Addr × Obj)) (σ : St) (H : Hp) (s : Shared) (e : Value) (s' : Shared), Inv X pins σ H s → CX X.stack H s E e s' → X.xe e s'

section
variable {X : Cx} {CX : CXT} {k : Nat} {f C : Addr} {fd : FuncData} {ps : List Str} {sp : Sp} {dvs : List V} {ds : List Value} {E : XK} {x m : Str} {p pos apos : Pos} {e o : Expr} {es : List Expr} {ta : TE} {t : TA}

/-- the callee runs -/
theorem run_fn {pins : List (Addr × Obj)} {σ : St} {H : Hp} {s : Shared} {Q : VK} {us : List Value} {vs : List V} (F : FnOk X.prog X.w X.K X.mg X.base CX k f fd ps sp) (hr : Room k X.A) (hb : Binds X.K fd ps ds) (hd : Vals dvs ds) (hx : Passes CX X E)
    (I : Inv X pins σ H s) (r : Vals vs us) (h : sp (vs ++ dvs) H Q E) : wpAny (model X.prog X.w) X.A (call (.ref f) us) (EP X pins σ Q) X.xe s := by
  have r2 : Vals (vs ++ dvs) (us ++ ds) := r.append hd
  have hl : (us ++ ds).length = ps.length := by rw [← r2.length]; exact F.len _ _ _ _ h
  refine wpAny_call (codeAny_mono (F.run X.A X.stack s H ⟨us, []⟩ (us ++ ds) (vs ++ dvs) Q E hr I.env0 (hb s us I.kIn hl) r2 h) fun r s' hq => ?_)
  cases r with
  | error e => exact hx pins σ H s e s' I hq
  | ok fl =>
    cases fl with
    | ret u => exact I.after hq
    | next => exact False.elim hq
    | brk => exact False.elim hq
    | cont => exact False.elim hq

theorem pe_call (F : FnOk X.prog X.w X.K X.mg X.base CX k f fd ps sp) (hr : Room k X.A) (hg : Gl X x) (hm : X.mg x = some (.ref f)) (hk : PySem.W.keepIn X.K (.ref f) = true) (hb : Binds X.K fd ps ds) (hd : Vals dvs ds) (hx : Passes CX X E)
    (ha : PA X (e :: es) t) (hdb : (x == ("__debug__" : Str)) = false := by decide) (he : starEach (e :: es) X.env = (false, eval e X.env) :: starEach es X.env := by rfl) (hpl : (backTo pos (starEach es X.env)).any (·.1) = false := by rfl) :
    PE X (.Call (.Name x p) (e :: es) [] pos) (tCall sp dvs E t) := by
  intro pins s σ H Q I h
  refine wpAny_Call_Name_kw (ld_glob I hg hm ?_ hdb)
  refine PySem.W.callWith_K (h₀ := X.base) I.ok.mod.kin hk (thn (ha pos pins s σ H _ I h) fun us s1 ⟨vs, H1, I1, r, q⟩ => ⟨I1.kIn, ?_⟩) he hpl
  exact run_fn F hr hb hd hx I1 r q
theorem pe_call0 (F : FnOk X.prog X.w X.K X.mg X.base CX k f fd ps sp) (hr : Room k X.A) (hg : Gl X x) (hm : X.mg x = some (.ref f)) (hk : PySem.W.keepIn X.K (.ref f) = true) (hb : Binds X.K fd ps ds) (hd : Vals dvs ds) (hx : Passes CX X E)
    (hdb : (x == ("__debug__" : Str)) = false := by decide) : PE X (.Call (.Name x p) [] [] pos) (tCall sp dvs E tNil) := by
  intro pins s σ H Q I h
  refine wpAny_Call_Name_kw (ld_glob I hg hm ?_ hdb)
  exact PySem.W.callWith_K0 I.kIn hk (run_fn (us := []) F hr hb hd hx I .nil h)

/-- o.m(e, ..) -/
theorem pe_meth {pl : Sem Bool} (he : PE X o ta) (c : Cls X.K C) (hm : Meth X.K C m f) (F : FnOk X.prog X.w X.K X.mg X.base CX k f fd ps sp) (hr : Room k X.A) (hb : Binds X.K fd ps ds) (hd : Vals dvs ds) (hx : Passes CX X E) (ha : PA X (e :: es) t)
    (hst : starEach (e :: es) X.env = (false, eval e X.env) :: starEach es X.env := by rfl) (hpl : (backTo pos (starEach es X.env)).any (·.1) = false := by rfl)
    (ht : eval (.Call (.Attribute o m apos) (e :: es) [] pos) X.env = (do
      let ov ← eval o X.env
      standAt apos.atName
      let (f, first) ← holding [ov] (getMethod ov m pl)
      callWith pos f first (backTo pos (starEach (e :: es) X.env)) (backToKw pos (keywordEach [] X.env))) := by rfl) :
    PE X (.Call (.Attribute o m apos) (e :: es) [] pos) (tMeth C m sp dvs E ta t) := by
  intro pins s σ H Q I h
  refine PySem.W.methodCall_KW (pl := pl) (thn (he pins s σ H _ I h) fun u s1 ⟨x, H1, I1, rx, a, dx, fs, ex, ea, l, q⟩ => ?_) ht
  subst ex
  obtain rfl : u = Value.ref a := rx
  refine getmeth_ok I1 ea c hm l ?_
  refine PySem.W.callWith_K (first := [.ref a]) (h₀ := X.base) I.ok.mod.kin hm.kp (thn (ha pos pins s1 σ H1 _ I1 q) fun us s2 ⟨vs, H2, I2, r, q2⟩ => ⟨I2.kIn, ?_⟩) hst hpl
  exact run_fn (us := .ref a :: us) (vs := .ref a :: vs) F hr hb hd hx I2 (.cons rfl r) q2
/-- o.m() -/
theorem pe_meth0 {pl : Sem Bool} (he : PE X o ta) (c : Cls X.K C) (hm : Meth X.K C m f) (F : FnOk X.prog X.w X.K X.mg X.base CX k f fd ps sp) (hr : Room k X.A) (hb : Binds X.K fd ps ds) (hd : Vals dvs ds) (hx : Passes CX X E)
    (ht : eval (.Call (.Attribute o m apos) [] [] pos) X.env = (do
      let ov ← eval o X.env
      standAt apos.atName
      let (f, first) ← holding [ov] (getMethod ov m pl)
      callWith pos f first (backTo pos (starEach [] X.env)) (backToKw pos (keywordEach [] X.env))) := by rfl) :
    PE X (.Call (.Attribute o m apos) [] [] pos) (tMeth C m sp dvs E ta tNil) := by
  intro pins s σ H Q I h
  refine PySem.W.methodCall_KW (pl := pl) (thn (he pins s σ H _ I h) fun u s1 ⟨x, H1, I1, rx, a, dx, fs, ex, ea, l, q⟩ => ?_) ht
  subst ex
  obtain rfl : u = Value.ref a := rx
  refine getmeth_ok I1 ea c hm l ?_
  exact PySem.W.callWith_K0 (first := [.ref a]) I1.kIn hm.kp (run_fn (us := [.ref a]) (vs := [.ref a]) F hr hb hd hx I1 (.cons rfl .nil) q)

/-- what a class must have to be made -/
structure Mk (K : PySem.W.Frag) (C f : Addr) : Prop where
  makes : PySem.W.makesIn K C = true
  init : PySem.W.findIn K (.ref C) "__init__" = some (some (.ref f))
  fn : PySem.W.isFn K (.ref f) = true
  kp : PySem.W.keepIn K (.ref C) = true

theorem run_make {pins : List (Addr × Obj)} {σ : St} {H : Hp} {s : Shared} {Q : VK} {us : List Value} {vs : List V} (M : Mk X.K C f) (F : FnOk X.prog X.w X.K X.mg X.base CX k f fd ps sp) (hr : Room (k + 1) X.A) (hb : Binds X.K fd ps ds) (hd : Vals dvs ds)
    (hx : Passes CX X E) (I : Inv X pins σ H s) (r : Vals vs us)
    (h : ∀ x dx, H x = none → H dx = none → dx ≠ x → sp (.ref x :: (vs ++ dvs)) (upd (upd H dx (.own x)) x (.ins C dx [])) (fun v H2 => v = .non ∧ Q (.ref x) H2) E) :
    wpAny (model X.prog X.w) X.A (call (.ref C) us) (EP X pins σ Q) X.xe s := by
  have hq := h (s.heap.objs.size + 1) s.heap.objs.size (I.hok.fresh (Nat.le_succ _)) (I.hok.fresh (Nat.le_refl _)) (Nat.ne_of_lt (Nat.lt_succ_self _))
  have I2 := Inv.made (C := C) I
  have r2 : Vals (V.ref (s.heap.objs.size + 1) :: (vs ++ dvs)) (Value.ref (s.heap.objs.size + 1) :: (us ++ ds)) := .cons rfl (r.append hd)
  have hl : (Value.ref (s.heap.objs.size + 1) :: us ++ ds).length = ps.length := by
    have e := r2.length
    rw [F.len _ _ _ _ hq] at e
    exact e.symm
  refine wpAny_call (make_map (f := f) I.kIn M.makes M.init (beq_iff_eq.mp M.fn) (codeAny_mono (F.run _ X.stack _ _ ⟨Value.ref (s.heap.objs.size + 1) :: us, []⟩ (Value.ref (s.heap.objs.size + 1) :: (us ++ ds)) _ _ E (hr.make C us [])
    (I2.env0.make C us []) (hb _ (Value.ref (s.heap.objs.size + 1) :: us) I2.kIn hl) r2 hq) fun r s' hq' => ?_))
  cases r with
  | error e => exact hx pins σ _ _ e s' I2 hq'
  | ok fl =>
    cases fl with
    | ret u =>
      obtain ⟨v, H', I3, rv, ev, q3⟩ := I2.after hq'
      subst ev
      exact ⟨rv, ⟨V.ref (s.heap.objs.size + 1), H', I3, rfl, q3⟩⟩
    | next => exact False.elim hq'
    | brk => exact False.elim hq'
    | cont => exact False.elim hq'
theorem pe_make (M : Mk X.K C f) (F : FnOk X.prog X.w X.K X.mg X.base CX k f fd ps sp) (hr : Room (k + 1) X.A) (hg : Gl X x) (hm : X.mg x = some (.ref C)) (hb : Binds X.K fd ps ds) (hd : Vals dvs ds) (hx : Passes CX X E)
    (ha : PA X (e :: es) t) (hdb : (x == ("__debug__" : Str)) = false := by decide) (he : starEach (e :: es) X.env = (false, eval e X.env) :: starEach es X.env := by rfl) (hpl : (backTo pos (starEach es X.env)).any (·.1) = false := by rfl) :
    PE X (.Call (.Name x p) (e :: es) [] pos) (tMake C sp dvs E t) := by
  intro pins s σ H Q I h
  refine wpAny_Call_Name_kw (ld_glob I hg hm ?_ hdb)
  refine PySem.W.callWith_K (h₀ := X.base) I.ok.mod.kin M.kp (thn (ha pos pins s σ H _ I h) fun us s1 ⟨vs, H1, I1, r, q⟩ => ⟨I1.kIn, ?_⟩) he hpl
  exact run_make M F hr hb hd hx I1 r q
theorem pe_make0 (M : Mk X.K C f) (F : FnOk X.prog X.w X.K X.mg X.base CX k f fd ps sp) (hr : Room (k + 1) X.A) (hg : Gl X x) (hm : X.mg x = some (.ref C)) (hb : Binds X.K fd ps ds) (hd : Vals dvs ds) (hx : Passes CX X E)
    (hdb : (x == ("__debug__" : Str)) = false := by decide) : PE X (.Call (.Name x p) [] [] pos) (tMake C sp dvs E tNil) := by
  intro pins s σ H Q I h
  refine wpAny_Call_Name_kw (ld_glob I hg hm ?_ hdb)
  exact PySem.W.callWith_K0 I.kIn M.kp (run_make (us := []) M F hr hb hd hx I .nil h)
end

/-! ### keywords -/
/-- the values of the keywords, from the left -/
def PK (X : Cx) (kws : List Keyword) (t : TA) : Prop :=
  ∀ (pos : Pos) (pins : List (Addr × Obj)) (s : Shared) (σ : St) (H : Hp) (Q : List V → Hp → Prop), Inv X pins σ H s → t σ H Q → wpAny (model X.prog X.w) X.A (evalAll ((backToKw pos (keywordEach kws X.env)).map (·.2))) (AP X pins σ Q) X.xe s
section
variable {X : Cx} {CX : CXT} {k : Nat} {f C : Addr} {fd : FuncData} {ps ks : List Str} {sp : Sp} {E : XK} {x m : Str} {p pos apos kpos : Pos} {e o : Expr} {es : List Expr} {kws : List Keyword} {te ta : TE} {t tk : TA} {nm : Option Str}
theorem pk_nil : PK X [] tNil := fun _ _ _ _ H Q I h => wpAny_evalAll_nil ⟨[], H, I, .nil, h⟩
theorem pk_cons (ha : PE X e te) (hr : PK X kws t) : PK X (⟨nm, e, kpos⟩ :: kws) (tCons te t) := by
  intro pos pins s σ H Q I h
  show wpAny _ _ (evalAll ((do let v ← eval e X.env; standAt pos; pure v) :: (backToKw pos (keywordEach kws X.env)).map (·.2))) _ _ s
  refine wpAny_evalAll_cons (wpAny_bind (thn (ha pins s σ H _ I h) fun u s1 ⟨x, H1, I1, r1, q1⟩ => wpAny_bind (wpAny_standAt (wpAny_pure ?_))))
  exact thn (hr pos pins s1 σ H1 _ I1 q1) fun us s2 ⟨xs, H2, I2, r2, q2⟩ => ⟨x :: xs, H2, I2, .cons r1 r2, q2⟩

/-- how a call with keywords binds: g puts the positional values us and the keywords' values ws (names ks) in the parameters' order, defaults among them -/
structure KBinds (K : PySem.W.Frag) (fd : FuncData) (ps ks : List Str) (g : List Value → List Value → List Value) (gV : List V → List V → List V) : Prop where
  to : ∀ (s : Shared) (us ws : List Value), K.In s.heap → (g us ws).length = ps.length → BindsTo s fd ⟨us, ks.zip ws⟩ (ps.zip (g us ws))
  rel : ∀ {vs : List V} {us : List Value} {zs : List V} {ws : List Value}, Vals vs us → Vals zs ws → Vals (gV vs zs) (g us ws)
def tCallK (sp : Sp) (gV : List V → List V → List V) (E : XK) (t tk : TA) : TE := fun σ H Q => t σ H fun vs H1 => tk σ H1 fun zs H2 => sp (gV vs zs) H2 Q E
variable {g : List Value → List Value → List Value} {gV : List V → List V → List V}
theorem run_fnk {pins : List (Addr × Obj)} {σ : St} {H : Hp} {s : Shared} {Q : VK} {us ws : List Value} {vs zs : List V} (F : FnOk X.prog X.w X.K X.mg X.base CX k f fd ps sp) (hr : Room k X.A) (hb : KBinds X.K fd ps ks g gV) (hx : Passes CX X E)
    (I : Inv X pins σ H s) (r : Vals vs us) (rz : Vals zs ws) (h : sp (gV vs zs) H Q E) : wpAny (model X.prog X.w) X.A (call (.ref f) us (ks.zip ws)) (EP X pins σ Q) X.xe s := by
  have r2 := hb.rel r rz
  have hl : (g us ws).length = ps.length := by rw [← r2.length]; exact F.len _ _ _ _ h
  refine wpAny_call (codeAny_mono (F.run X.A X.stack s H ⟨us, ks.zip ws⟩ (g us ws) (gV vs zs) Q E hr I.env0 (hb.to s us ws I.kIn hl) r2 h) fun r s' hq => ?_)
  cases r with
  | error e => exact hx pins σ H s e s' I hq
  | ok fl =>
    cases fl with
    | ret u => exact I.after hq
    | next => exact False.elim hq
    | brk => exact False.elim hq
    | cont => exact False.elim hq
/-- f(e, .., k = v, ..) -/
theorem pe_callK (F : FnOk X.prog X.w X.K X.mg X.base CX k f fd ps sp) (hr : Room k X.A) (hg : Gl X x) (hm : X.mg x = some (.ref f)) (hk : PySem.W.keepIn X.K (.ref f) = true) (hb : KBinds X.K fd ps ks g gV) (hx : Passes CX X E)
    (ha : PA X (e :: es) t) (hkw : PK X kws tk) (hall : (backToKw pos (keywordEach kws X.env)).all (·.1.isSome) = true := by rfl) (hks : (backToKw pos (keywordEach kws X.env)).filterMap (·.1) = ks := by rfl)
    (hdb : (x == ("__debug__" : Str)) = false := by decide) (he : starEach (e :: es) X.env = (false, eval e X.env) :: starEach es X.env := by rfl)
    (hpl : ((backTo pos (starEach (e :: es) X.env)).any (·.1) || (backToKw pos (keywordEach kws X.env)).any (·.1.isNone)) = false := by rfl) :
    PE X (.Call (.Name x p) (e :: es) kws pos) (tCallK sp gV E t tk) := by
  intro pins s σ H Q I h
  refine wpAny_Call_Name_kw (ld_glob I hg hm ?_ hdb)
  refine PySem.W.callWith_KW (h₀ := X.base) I.ok.mod.kin hk hall (thn (ha pos pins s σ H _ I h) fun us s1 ⟨vs, H1, I1, r, q⟩ => ?_) hpl he
  refine thn (hkw pos pins s1 σ H1 _ I1 q) fun ws s2 ⟨zs, H2, I2, rz, q2⟩ => ⟨I2.kIn, ?_⟩
  rw [hks]
  exact run_fnk F hr hb hx I2 r rz q2
end

/-! ### a def's body keeps its promise -/
/-- names: the parameters first -/
structure FnScope (N P : List Str) (sc : Scope) : Prop where
  kind : sc.kind = .function
  co : sc.isCoroutine = false
  gen : sc.isGenerator = false
  nd : N.Nodup
  pre : N.take P.length = P
  par : ∀ x ∈ P, sc.names.lookup x = some .local ∨ sc.names.lookup x = some .cell
  nofree : ∀ y ∈ sc.names, y.2 ≠ .free

theorem bindL_out {kindOf : Str → Option NameKind} {x : Str} : ∀ {binds : List (Str × Value)} {m : Str → Option Value}, (∀ v, (x, v) ∉ binds) → bindL kindOf binds m x = m x
  | [], _, _ => rfl
  | (n, v) :: r, m, h => by
    unfold bindL
    rw [bindL_out fun w hw => h w (List.mem_cons_of_mem _ hw)]
    split
    · have : x ≠ n := by rintro rfl; exact h v List.mem_cons_self
      simp [this]
    · rfl
theorem bindC_out {kindOf : Str → Option NameKind} {x : Str} : ∀ {binds : List (Str × Value)} {m : Str → Option Value}, (∀ v, (x, v) ∉ binds) → bindC kindOf binds m x = m x
  | [], _, _ => rfl
  | (n, v) :: r, m, h => by
    unfold bindC
    rw [bindC_out fun w hw => h w (List.mem_cons_of_mem _ hw)]
    split
    · rfl
    · have : x ≠ n := by rintro rfl; exact h v List.mem_cons_self
      simp [this]
theorem bindL_get {kindOf : Str → Option NameKind} {x : Str} {v : Value} : ∀ {P : List Str} {vs : List Value} {i : Nat} {m : Str → Option Value}, P.Nodup → P[i]? = some x → vs[i]? = some v → kindOf x = some .local →
    bindL kindOf (P.zip vs) m x = some v
  | [], _, _, _, _, h, _, _ => by simp at h
  | _ :: _, [], _, _, _, _, h, _ => by simp at h
  | p :: P, w :: vs, 0, m, nd, h1, h2, hk => by
    simp at h1 h2; subst h1; subst h2
    show bindL kindOf ((p, w) :: P.zip vs) m p = _
    unfold bindL
    rw [bindL_out fun v hv => (List.nodup_cons.mp nd).1 (List.of_mem_zip hv).1, if_pos hk]
    simp
  | p :: P, w :: vs, i + 1, m, nd, h1, h2, hk => by
    show bindL kindOf ((p, w) :: P.zip vs) m x = _
    unfold bindL
    exact bindL_get (i := i) (List.nodup_cons.mp nd).2 (by simpa using h1) (by simpa using h2) hk
theorem bindC_get {kindOf : Str → Option NameKind} {x : Str} {v : Value} : ∀ {P : List Str} {vs : List Value} {i : Nat} {m : Str → Option Value}, P.Nodup → P[i]? = some x → vs[i]? = some v → kindOf x ≠ some .local →
    bindC kindOf (P.zip vs) m x = some v
  | [], _, _, _, _, h, _, _ => by simp at h
  | _ :: _, [], _, _, _, _, h, _ => by simp at h
  | p :: P, w :: vs, 0, m, nd, h1, h2, hk => by
    simp at h1 h2; subst h1; subst h2
    show bindC kindOf ((p, w) :: P.zip vs) m p = _
    unfold bindC
    rw [bindC_out fun v hv => (List.nodup_cons.mp nd).1 (List.of_mem_zip hv).1, if_neg hk]
    simp
  | p :: P, w :: vs, i + 1, m, nd, h1, h2, hk => by
    show bindC kindOf ((p, w) :: P.zip vs) m x = _
    unfold bindC
    exact bindC_get (i := i) (List.nodup_cons.mp nd).2 (by simpa using h1) (by simpa using h2) hk

/-- the names' values at the entry -/
def start (N : List Str) (vs : List V) : St := vs.map some ++ List.replicate (N.length - vs.length) none

/-- the context of a def's body, at its entry; an exception leaves the frame, then lies as CX says -/
def cxOf (CX : CXT) (P : Program) (w : World) (K : PySem.W.Frag) (mg : Str → Option Value) (base : Heap) (N : List Str) (qual : Str) (scope : Scope) (f : Addr) (cd : Value) (A : Around) (outer : List Env) (s : Shared) (H : Hp) (E : XK) : Cx where
  prog := P
  w := w
  K := K
  mg := mg
  base := base
  A := A.deeper (envOfC qual scope s.heap.objs.size f cd)
  N := N
  s₀ := s
  H₀ := H
  env := envOfC qual scope s.heap.objs.size f cd
  outer := outer
  stack := envOfC qual scope s.heap.objs.size f cd :: outer
  ex := []
  calm := true
  fn := fun _ => true
  pn := []
  xe := fun e s' => wpAny (model P w) (A.deeper (envOfC qual scope s.heap.objs.size f cd)) (leaving (envOfC qual scope s.heap.objs.size f cd) e) (fun _ s'' => CX outer H s E e s'') (fun e' s'' => CX outer H s E e' s'') s'

theorem cell_has {sc : Scope} {n : Nat} {x : Str} (h : sc.names.lookup x = some .cell) : ∃ c, (cellsFrom n sc.names []).lookup x = some c := by
  have q := PySem.W.cellsFrom_some sc.names n [] (.inl h)
  exact Option.isSome_iff_exists.mp q

theorem inv_start {CX : CXT} {P : Program} {w : World} {K : PySem.W.Frag} {mg : Str → Option Value} {base : Heap} {N ps : List Str} {qual : Str} {scope : Scope} {f : Addr} {cd : Value} {A : Around} {outer : List Env} {s s1 : Shared} {H : Hp} {E : XK} {us : List Value} {vs : List V}
    (S : FnScope N ps scope) (hd : A.handled = none) (e0 : Env0 P w K mg base A outer s H) (hl : vs.length = ps.length) (r : Vals vs us)
    (x : InCallC s s.heap.objs.size (bindL (envOfC qual scope s.heap.objs.size f cd).kindOf (ps.zip us) fun _ => none) (cellsFrom (s.heap.objs.size + 1) scope.names []) (bindC (envOfC qual scope s.heap.objs.size f cd).kindOf (ps.zip us) fun _ => none) s1) :
    Inv (cxOf CX P w K mg base N qual scope f cd A outer s H E) [] (start N vs) H s1 := by
  have hpl : ps.length ≤ N.length := by have := congrArg List.length S.pre; rw [List.length_take] at this; omega
  obtain ⟨h1, tk, rfl, hk⟩ := x.done
  have noA : ∀ b : Addr, b ∉ (cxOf CX P w K mg base N qual scope f cd A outer s H E).ex := fun b z => absurd (show b ∈ ([] : List Addr) from z) (by simp)
  refine ⟨⟨e0.mod, S.kind, rfl, rfl, Nat.le_refl _, fun y z c h1 h2 => ?_, fun y hy => ?_, fun y c _ h => ?_, fun _ => hd, Around.frames_deeper e0.frames, .inr ⟨rfl, rfl⟩, fun b z => absurd z (noA b), e0.bs, e0.bsz, fun b _ _ => noA b, fun b z => absurd z (noA b), e0.funs, e0.frf⟩,
    rfl, e0.bare, Un.kept hk, ⟨_, x.toInCall.ns, fun i y v h1 h2 h3 => ?_⟩, fun y c h => ⟨_, x.cell y c h⟩, e0.hok.fresh (Nat.le_refl _), fun y c h => ?_, fun p hp => absurd (show p ∈ ([] : List (Addr × Obj)) from hp) (by simp), e0.hok.kept hk, ?_⟩
  · exact name_of_addr x.apart (PySem.mem_of_lookup h1) (PySem.mem_of_lookup h2)
  · have hy : scope.names.lookup y = some .cell ∨ scope.names.lookup y = some .free := hy
    rcases hy with hy | hy
    · exact cell_has hy
    · exact absurd rfl (S.nofree _ (PySem.mem_of_lookup hy))
  · exact Nat.le_of_lt (x.above y c (PySem.mem_of_lookup h))
  · have hi : i < vs.length := by
      unfold start at h2
      by_cases hi : i < vs.length
      · exact hi
      · rw [List.getElem?_append_right (by simpa using hi)] at h2
        rw [List.getElem?_replicate] at h2
        split at h2 <;> cases h2
    have ha : vs[i]? = some v := by
      unfold start at h2
      rw [List.getElem?_append_left (by simpa using hi), List.getElem?_map] at h2
      cases e : vs[i]? with
      | none => rw [e] at h2; cases h2
      | some a => rw [e] at h2; cases h2; rfl
    obtain ⟨u, hu, rv⟩ := r.get ha
    have hp : ps[i]? = some y := by
      rw [← S.pre, List.getElem?_take_of_lt (by omega)]; exact h1
    have ndP : ps.Nodup := by rw [← S.pre]; exact S.nd.sublist (List.take_sublist _ _)
    refine ⟨u, rv, ?_⟩
    rcases S.par y (List.mem_of_getElem? hp) with k | k
    · exact .inl ⟨k, bindL_get ndP hp hu k⟩
    · obtain ⟨c, e⟩ := cell_has (n := s.heap.objs.size + 1) k
      refine .inr ⟨.inl k, c, e, ?_⟩
      have q := x.cell y c e
      rw [bindC_get ndP hp hu (by show scope.names.lookup y ≠ _; rw [k]; decide)] at q
      exact q
  · exact e0.hok.fresh (Nat.le_of_lt (x.above y c (PySem.mem_of_lookup h)))
  · unfold start
    show _ = N.length
    rw [List.length_append, List.length_map, List.length_replicate]
    omega

/-- THE RULE: a def (or a method) of the text, by its body. The body's reading t is chosen for each entry; it is run at the parameters' values -/
theorem fn_of {CX : CXT} {P : Program} {w : World} {K : PySem.W.Frag} {mg : Str → Option Value} {base : Heap} {k : Nat} {f : Addr} {name qual : Str} {params : Arguments} {body : List Stmt} {scope : Scope} {dV kV doc pm cdv ct oc : Value} {an od : Option Addr}
    {osl : Array (Option Value)} {N ps : List Str} {sp : Sp} (lk : K.lookup f = some ⟨oc, od, .func (PySem.W.fnOf name qual params body scope dV kV doc pm an cdv ct), osl⟩) (hcd : PySem.W.codeIn K cdv qual = true) (S : FnScope N ps scope)
    (len : ∀ vs H Q E, sp vs H Q E → vs.length = ps.length)
    (hbody : ∀ (A : Around) (outer : List Env) (s : Shared) (H : Hp) (vs : List V) (Q : VK) (E : XK), Room k (A.deeper (envOfC qual scope s.heap.objs.size f cdv)) → sp vs H Q E →
      ∃ t, PSs (cxOf CX P w K mg base N qual scope f cdv A outer s H E) body t ∧ t { nx := fun _ H' => Q .non H', rt := Q } (start N vs) H) :
    FnOk P w K mg base CX (k + 1) f (PySem.W.fnOf name qual params body scope dV kV doc pm an cdv ct) ps sp := by
  refine ⟨len, fun A outer s H args us vs Q E hr e0 hb r hsp => ?_⟩
  have hl := len _ _ _ _ hsp
  have KX : K.In s.heap := e0.mod.kin.keeps fun b o e => (e0.bs b o e).1
  have lim : s.heap.NoLimit := e0.mod.nolimit.keeps fun b o e => (e0.bs b o e).1
  have hkind : ∀ y ∈ ps.zip us, scope.names.lookup y.1 = some .local ∨ (scope.names.lookup y.1 = some .cell ∧ ((cellsFrom (s.heap.objs.size + 1) scope.names []).lookup y.1).isSome = true) := fun ⟨n, v⟩ hy => by
    rcases S.par n (List.of_mem_zip hy).1 with q | q
    · exact .inl q
    · exact .inr ⟨q, PySem.W.cellsFrom_some _ _ _ (.inl q)⟩
  refine codeAny_call_function hr.depth (KX _ _ lk) rfl S.co S.gen rfl (PySem.W.codeRec_of KX hcd) (hb _ _ _ _ ?_)
  refine wpAny_newFunctionEnv_cells S.kind hkind fun env he s1 x => ?_
  subst he
  refine ⟨lim.keeps x.toInCall.keep, codeAny_func ?_⟩
  obtain ⟨t, ht, hq⟩ := hbody A outer s H vs Q E (hr.deeper _) hsp
  have I : Inv (cxOf CX P w K mg base N qual scope f cdv A outer s H E) [] (start N vs) H s1 := inv_start S hr.hd e0 hl r x
  refine wpAny_mono (ht [] s1 (start N vs) H _ I hq) (fun fl s' hs => ?_) fun e s' hs => hs
  have fin : ∀ {σ' : St} {H' : Hp} {v : V} {u : Value}, Inv (cxOf CX P w K mg base N qual scope f cdv A outer s H E) [] σ' H' s' → RelV v u → Q v H' → CE outer P w H s Q u s' :=
    fun {σ' H' v u} J rv q => ⟨v, H', J.os, J.bare, J.base, J.hok, rv, q⟩
  cases fl with
  | ret u =>
    obtain ⟨v, σ', H', J, rv, q⟩ := hs
    exact fin J rv q
  | next =>
    obtain ⟨σ', H', J, q⟩ := hs
    exact fin (v := V.non) (u := Value.none) J rfl q
  | brk =>
    obtain ⟨_, _, _, q⟩ := hs
    exact False.elim q
  | cont =>
    obtain ⟨_, _, _, q⟩ := hs
    exact False.elim q
end L2

namespace L2
open PySem PySem.Spec PyProof.Rows
section
variable {X : Cx} {x : Str} {p pos : Pos} {e : Expr} {es : List Expr} {t : TA} {id T : String} {r : List V → Hp → VK → Prop}

def tCB (r : List V → Hp → VK → Prop) (t : TA) : TE := fun σ H Q => t σ H fun vs H1 => r vs H1 Q
/-- f(e, ..), f a built-in function -/
theorem pe_callB (hc : CallR X (.builtin id) r) (hg : Gl X x) (hm : X.mg x = none) (hv : bootBuiltins x = some (.builtin id)) (ha : PA X (e :: es) t) (hn : x ≠ "__name__" := by decide) (hdb : (x == ("__debug__" : Str)) = false := by decide)
    (he : starEach (e :: es) X.env = (false, eval e X.env) :: starEach es X.env := by rfl) (hpl : (backTo pos (starEach es X.env)).any (·.1) = false := by rfl) : PE X (.Call (.Name x p) (e :: es) [] pos) (tCB r t) := by
  intro pins s σ H Q I h
  refine wpAny_Call_Name_kw (ld_blt I hg hm hv ?_ hn hdb)
  exact PyProof.Rows.callWith_builtin1 (thn (ha pos pins s σ H _ I h) fun us s1 ⟨vs, H1, I1, r1, q1⟩ => hc pins s1 σ H1 vs us Q I1 r1 q1) he hpl
/-- T(e, ..), T a built-in type -/
theorem pe_callTy (hc : CallR X (.type T) r) (hg : Gl X x) (hm : X.mg x = none) (hv : bootBuiltins x = some (.type T)) (ha : PA X (e :: es) t) (hn : x ≠ "__name__" := by decide) (hdb : (x == ("__debug__" : Str)) = false := by decide)
    (he : starEach (e :: es) X.env = (false, eval e X.env) :: starEach es X.env := by rfl) (hpl : (backTo pos (starEach es X.env)).any (·.1) = false := by rfl) : PE X (.Call (.Name x p) (e :: es) [] pos) (tCB r t) := by
  intro pins s σ H Q I h
  refine wpAny_Call_Name_kw (ld_blt I hg hm hv ?_ hn hdb)
  exact PyProof.Rows.callWith_type1 (thn (ha pos pins s σ H _ I h) fun us s1 ⟨vs, H1, I1, r1, q1⟩ => hc pins s1 σ H1 vs us Q I1 r1 q1) he hpl
/-- T() -/
theorem pe_callTy0 (hc : CallR X (.type T) r) (hg : Gl X x) (hm : X.mg x = none) (hv : bootBuiltins x = some (.type T)) (hn : x ≠ "__name__" := by decide) (hdb : (x == ("__debug__" : Str)) = false := by decide) :
    PE X (.Call (.Name x p) [] [] pos) (tCB r tNil) := by
  intro pins s σ H Q I h
  refine wpAny_Call_Name_kw (ld_blt I hg hm hv ?_ hn hdb)
  exact PyProof.Rows.callWith_type0 (hc pins s σ H [] [] Q I .nil h)
end
end L2

namespace HT
open PySem PyProof.Rows

/-- t < u of tuples of ints -/
def lexLt : List Int → List Int → Bool
  | [], [] => false
  | [], _ :: _ => true
  | _ :: _, [] => false
  | x :: xs, y :: ys => if x = y then lexLt xs ys else decide (x < y)
theorem lexLt_cons (x y : Int) (xs ys : List Int) : lexLt (x :: xs) (y :: ys) = if x = y then lexLt xs ys else decide (x < y) := rfl
theorem lexLt_nil_nil : lexLt [] [] = false := rfl
theorem lexLt_nil_cons (y : Int) (ys : List Int) : lexLt [] (y :: ys) = true := rfl
theorem lexLt_cons_nil (x : Int) (xs : List Int) : lexLt (x :: xs) [] = false := rfl

theorem eqAt_int (A : Around) (s : Shared) (a : Int) (t : Tok) (c : Int) (u : Tok) : ∃ e, SeqAt.EqAt A s (.int a t) (.int c u) e ∧ (e = true ↔ a = c) :=
  ⟨(a == c), SeqAt.EqAt.int_int a t c u, by simp⟩
theorem rcLt_int (A : Around) (s : Shared) (a : Int) (t : Tok) (c : Int) (u : Tok) (prog : Program) (w : World) (E : Value → Shared → Prop) (Q : Value → Shared → Prop) (h : Q (.bool (decide (a < c))) s) :
    wpAny (model prog w) A (richCompare .Lt (.int a t) (.int c u)) Q E s :=
  (PyProof.Rows.lt_int h : wpAny (model prog w) A (compareOp .Lt (.int a t) (.int c u)) Q E s)

section
open PySem.SeqAt
open PySem.AutoSeq1 (wpAny_loadPart')
open PySem.MeetsSeq PySem.MeetsSeq2 PySem.MeetsSeq3

theorem tuple_lt_ints (l b : Addr) (items items2 : Array Value) (n n2 : Nat) (dd dd2 : Option Addr) (sl sl2 : Array (Option Value)) (ns ms : List Int) (hi : IntsAre items.toList ns) (hj : IntsAre items2.toList ms) :
    Meets (Builtin.«tuple.__lt__» ⟨[.ref l, .ref b], []⟩)
      (fun _ R s => s.heap.get? l = some { cls := .type "tuple", dict := dd, data := .seq items n, slots := sl } ∧ s.heap.get? b = some { cls := .type "tuple", dict := dd2, data := .seq items2 n2, slots := sl2 } ∧
        R (.ok (.ret (.bool (lexLt ns ms)))) s) :=
  .of_wp fun prog w A R s h => by
    obtain ⟨hp, g, d, tk, os⟩ := s; obtain ⟨hl, hb, h⟩ := h
    have f2 := AutoSeq1.sub_tuple_tuple
    have z1 : items.size = ns.length := by rw [← hi.length]; simp
    have z2 : items2.size = ms.length := by rw [← hj.length]; simp
    wp_walk using wpAny_loadPart' hl, wpAny_loadPart' hb, wpAny_forIn_list _ (fun rest b s' => b.1 = none ∧ s' = ⟨hp, g, d, tk, os⟩ ∧ ∃ (vs ws : List Value) (ns' ms' : List Int), rest = vs.zip ws ∧
      IntsAre vs ns' ∧ IntsAre ws ms' ∧ ns'.length + items2.size = ms'.length + items.size ∧ R (.ok (.ret (.bool (lexLt ns' ms')))) ⟨hp, g, d, tk, os⟩) _
    case turn =>
      rintro ⟨y, x⟩ rest b s' ⟨hb', rfl, vs, ws, ns', ms', hz, hvi, hwi, hlen, hR⟩
      cases hvi with
      | nil => rw [List.zip_nil_left] at hz; cases hz
      | cons a t hvi' =>
        cases hwi with
        | nil => rw [List.zip_nil_right] at hz; cases hz
        | cons c u hwi' =>
          rw [List.zip_cons_cons] at hz
          injection hz with hyx hrest
          injection hyx with hy hx
          subst hy hx
          rw [lexLt_cons] at hR
          simp only [List.length_cons] at hlen
          obtain ⟨e, he, hiff⟩ := eqAt_int A.in1 ⟨hp, g, d, tk, os⟩ a t c u
          refine wpAny_bind (he prog w _ _ ?_)
          cases e with
          | true =>
            rw [if_pos (hiff.mp rfl)] at hR
            wp_walk
            exact ⟨rfl, rfl, _, _, _, _, hrest, hvi', hwi', by omega, hR⟩
          | false =>
            rw [if_neg (fun q => absurd (hiff.mpr q) Bool.false_ne_true)] at hR
            have hri := rcLt_int A.in1 ⟨hp, g, d, tk, os⟩ a t c u prog w
            wp_walk using hri
            exact ⟨_, rfl, by simpa using hR⟩
    case fin =>
      rintro ⟨b1, b2⟩ s' ⟨hb', rfl, vs, ws, ns', ms', hz, hvi, hwi, hlen, hR⟩
      simp only at hb'
      subst hb'
      have hv : lexLt ns' ms' = decide (items.size < items2.size) := by
        cases hvi with
        | nil =>
          cases hwi with
          | nil =>
            simp only [List.length_nil] at hlen
            rw [lexLt_nil_nil]
            exact (decide_eq_false (by omega)).symm
          | cons c u hw =>
            simp only [List.length_nil, List.length_cons] at hlen
            rw [lexLt_nil_cons]
            exact (decide_eq_true (by omega)).symm
        | cons a t hv =>
          cases hwi with
          | nil =>
            simp only [List.length_nil, List.length_cons] at hlen
            rw [lexLt_cons_nil]
            exact (decide_eq_false (by omega)).symm
          | cons c u hw =>
            rw [List.zip_cons_cons] at hz
            cases hz
      rw [hv] at hR
      wp_walk
      exact ⟨_, rfl, by simpa [Builtin.Tuple.tupleCompareSizes] using hR⟩
    case h =>
      exact ⟨rfl, rfl, items.toList, items2.toList, ns, ms, rfl, hi, hj, by omega, h⟩
end

section
variable {prog : Program} {w : World} {A : Around} {E : Value → Shared → Prop} {s : Shared}

theorem lt_tupInts {l b : Addr} {items items2 : Array Value} {ns ms : List Int} {Q : Value → Shared → Prop} (hl : IsTup s.heap l items) (hb : IsTup s.heap b items2) (hi : IntsAre items.toList ns) (hj : IntsAre items2.toList ms)
    (hu : A.units < cLine) (h : Q (.bool (lexLt ns ms)) s) : wpAny (model prog w) A (compareOp .Lt (.ref l) (.ref b)) Q E s := by
  obtain ⟨⟨cls, dd, data, sl⟩, ho, hc, n, hd⟩ := id hl
  obtain ⟨⟨cls2, dd2, data2, sl2⟩, ho2, hc2, n2, hd2⟩ := id hb
  simp only at hc hd hc2 hd2
  subst hc hd hc2 hd2
  exact richCompare_meets_room (op := .Lt) ⟨_, ho, rfl⟩ ⟨_, ho2, rfl⟩ PySem.F.slot_tuple_lt PySem.F.entry_tuple_lt (PySem.F.args_tuple_lt_2 _ _) (tuple_lt_ints l b items items2 n n2 dd dd2 sl sl2 ns ms hi hj)
    ⟨ho, ho2, show Value.bool (lexLt ns ms) ≠ Value.notImplemented ∧ Q (.bool (lexLt ns ms)) s from ⟨(fun x => nomatch x), h⟩⟩ hu

/-- t + u, t not empty -/
theorem cat_tup {t b : Addr} {vs ws : List Value} {Q : Value → Shared → Prop} (ht : IsTup s.heap t vs.toArray) (hb : IsTup s.heap b ws.toArray) (hv : vs ≠ [])
    (h1 : ws = [] → Q (.ref t) s) (h2 : ws ≠ [] → Q (.ref s.heap.objs.size) { s with heap := s.heap.push { cls := .type "tuple", data := .seq (vs ++ ws).toArray } })
    (hsz : vs.length + ws.length ≤ sizeLine) : wpAny (model prog w) A (binaryOp .Add (.ref t) (.ref b)) Q E s := by
  obtain ⟨⟨cls, dd, data, sl⟩, ho, hc, n, hd⟩ := id ht
  obtain ⟨⟨cls2, dd2, data2, sl2⟩, ho2, hc2, n2, hd2⟩ := id hb
  simp only at hc hd hc2 hd2
  subst hc hd hc2 hd2
  have e : vs.toArray ++ ws.toArray = (vs ++ ws).toArray := by simp
  by_cases hw : ws = []
  · exact concat_meets ⟨_, ho, rfl⟩ ⟨_, ho2, rfl⟩ noFill_tuple_add seq_tuple_add PySem.F.slot_tuple_add PySem.F.entry_tuple_add (PySem.F.args_tuple_add_2 _ _)
      (tuple_addW1 t b vs.toArray ws.toArray n n2 dd dd2 sl sl2 (by simpa using hv) (by simp [hw])) ⟨ho, ho2, h1 hw⟩
  · refine concat_meets ⟨_, ho, rfl⟩ ⟨_, ho2, rfl⟩ noFill_tuple_add seq_tuple_add PySem.F.slot_tuple_add PySem.F.entry_tuple_add (PySem.F.args_tuple_add_2 _ _)
      (tuple_addW2 t b vs.toArray ws.toArray n n2 dd dd2 sl sl2 (by simpa using hv) (by simpa using hw) (by rw [List.size_toArray, List.size_toArray]; exact hsz)) ⟨ho, ho2, ?_⟩
    rw [e]
    exact h2 hw

/-! ### t[a:b], not the whole -/
/-- a slice's bound as a place among n (d where it is left out) -/
def sIx (n d : Nat) : Option Int → Nat
  | none => d
  | some v => if v < 0 then (v + (n : Int)).toNat else min v.toNat n
theorem sIx_none (n d : Nat) : sIx n d none = d := rfl
theorem sIx_nat (n d k : Nat) : sIx n d (some (k : Int)) = min k n := by
  show (if (k : Int) < 0 then ((k : Int) + (n : Int)).toNat else min (k : Int).toNat n) = min k n
  rw [if_neg (by omega), Int.toNat_natCast]
theorem sIx_le (n d : Nat) (hd : d ≤ n) (o : Option Int) : sIx n d o ≤ n := by
  cases o with
  | none => exact hd
  | some v =>
    show (if v < 0 then (v + (n : Int)).toNat else min v.toNat n) ≤ n
    by_cases hv : v < 0
    · rw [if_pos hv]; omega
    · rw [if_neg hv]; exact Nat.min_le_right _ _
theorem clip_eq (v : Int) (n d : Nat) : (if v < 0 then max (v + (n : Int)) 0 else min v (n : Int)) = ((sIx n d (some v) : Nat) : Int) := by
  show (if v < 0 then max (v + (n : Int)) 0 else min v (n : Int)) = (((if v < 0 then (v + (n : Int)).toNat else min v.toNat n) : Nat) : Int)
  by_cases hv : v < 0
  · simp only [if_pos hv]; omega
  · simp only [if_neg hv]; omega
theorem adjust_gen (lo hi : Option Int) (n : Nat) : Builtin.Slice.sliceAdjust lo hi 1 (n : Int) = (((sIx n 0 lo : Nat) : Int), ((sIx n n hi : Nat) : Int)) := by
  have h1 : ¬ ((1 : Int) < 0) := by omega
  unfold Builtin.Slice.sliceAdjust
  simp only [h1, if_false]
  refine Prod.ext ?_ ?_
  · cases lo with
    | none => rfl
    | some v => exact clip_eq v n 0
  · cases hi with
    | none => rfl
    | some v => exact clip_eq v n n
theorem places_gen (i j : Nat) : Builtin.Slice.slicePlaces (i : Int) (j : Int) 1 = j - i := by
  unfold Builtin.Slice.slicePlaces
  have h1 : (1 : Int) > 0 := by omega
  simp only [h1, if_true, Int.ediv_one]
  split <;> omega
theorem slicePart_ {v : Value} {o : Option Int} {Q : Option Int → Shared → Prop} (p : IsPart v o) (h : Q o s) : wpAny (model prog w) A (Builtin.Slice.slicePartIndex v) Q E s := by
  cases p with
  | none => exact slicePart_none h
  | int i t => exact slicePart_int h
theorem sliceApplied_gen {sl : Addr} {vl vu : Value} {lo hi : Option Int} {n : Nat} {Q : Int × Int × Nat → Shared → Prop} (hs : s.heap.IsSliceOf sl vl vu .none) (pl : IsPart vl lo) (pu : IsPart vu hi)
    (h : Q (((sIx n 0 lo : Nat) : Int), 1, sIx n n hi - sIx n 0 lo) s) : wpAny (model prog w) A (Builtin.Slice.sliceApplied (.ref sl) (pure (n : Int))) Q E s := by
  obtain ⟨os, hos, hcs, hds⟩ := id hs
  unfold Builtin.Slice.sliceApplied Builtin.Slice.sliceFields
  refine wpAny_bind (wpAny_bind (wpAny_field hos hds (x := vl) rfl (wpAny_bind (wpAny_field hos hds (x := vu) rfl (wpAny_bind (wpAny_field hos hds (x := .none) rfl (wpAny_pure ?_)))))))
  refine wpAny_bind (slicePart_none ?_)
  show wpAny _ _ (if ((1 : Int) == 0) = true then _ else _) _ _ s
  rw [if_neg (by decide)]
  refine wpAny_bind (slicePart_ pl (wpAny_bind (slicePart_ pu (wpAny_bind (wpAny_pure ?_)))))
  show wpAny _ _ (match Builtin.Slice.sliceAdjust lo hi 1 (n : Int) with | (lo, hi) => pure (lo, (1 : Int), Builtin.Slice.slicePlaces lo hi 1)) _ _ s
  rw [adjust_gen lo hi n]
  show wpAny _ _ (pure (((sIx n 0 lo : Nat) : Int), (1 : Int), Builtin.Slice.slicePlaces ((sIx n 0 lo : Nat) : Int) ((sIx n n hi : Nat) : Int) 1)) _ _ s
  rw [places_gen]
  exact wpAny_pure h
theorem pick_gen (xs : Array Value) (i k : Nat) : ((List.range k).filterMap fun (m : Nat) => xs[((i : Int) + (m : Int) * 1).toNat]?).toArray = ((xs.toList.drop i).take k).toArray := by
  have e : (fun (m : Nat) => xs[((i : Int) + (m : Int) * 1).toNat]?) = fun m => xs[i + m]? := by
    funext m
    have : ((i : Int) + (m : Int) * 1).toNat = i + m := by omega
    rw [this]
  rw [e]
  have := pick_run xs i k
  rw [List.filterMap_map] at this
  have e2 : ((fun x => xs[x]?) ∘ fun x => i + x) = fun m => xs[i + m]? := rfl
  rw [e2] at this
  rw [this]

theorem getItem_tuple_cut {t sl : Addr} {items : Array Value} {vl vu : Value} {lo hi : Option Int} {Q : Value → Shared → Prop} (ht : IsTup s.heap t items) (hs : s.heap.IsSliceOf sl vl vu .none) (pl : IsPart vl lo) (pu : IsPart vu hi)
    (hw : ¬ (sIx items.size 0 lo = 0 ∧ sIx items.size items.size hi = items.size))
    (h : Q (.ref s.heap.objs.size) { s with heap := s.heap.push { cls := .type "tuple", data := .seq ((items.toList.drop (sIx items.size 0 lo)).take (sIx items.size items.size hi - sIx items.size 0 lo)).toArray } })
    (hsz : items.size ≤ sizeLine) : wpAny (model prog w) A (getItem (.ref t) (.ref sl)) Q E s := by
  have htake : sizeOk (.seq ((items.toList.drop (sIx items.size 0 lo)).take (sIx items.size items.size hi - sIx items.size 0 lo)).toArray) := by
    show ((items.toList.drop (sIx items.size 0 lo)).take (sIx items.size items.size hi - sIx items.size 0 lo)).toArray.size ≤ sizeLine
    rw [List.size_toArray, List.length_take, List.length_drop, Array.length_toList]
    omega
  have hj : sIx items.size items.size hi ≤ items.size := sIx_le _ _ (Nat.le_refl _) hi
  obtain ⟨os, hos, hcs, hds⟩ := id hs
  have hTs : s.TypeIs (.ref sl) "slice" := ⟨os, hos, hcs⟩
  unfold getItem
  try with_reducible refine wpAny_holding ?_
  first | refine wpAny_bind (wpAny_pure ?_) | skip
  refine wpAny_bind (wpAny_sequenceKey ht.typeIs (by decide) ?_)
  refine wpAny_bind (wpAny_callSpecial?_slot (name := Str.ofString "__getitem__") ht.typeIs PyProof.Rows.slot_tuple_getitem
    (wpAny_call_entry PyProof.Rows.slot_tuple_getitem ht.typeIs entry_tuple_getitem ?_ (args_tuple_getitem _ _)))
  show wpAny _ _ (Builtin.Tuple.tupleItemsOf (.ref t) >>= _) _ _ s
  refine wpAny_bind (tupleItemsOf_ ht ?_)
  refine wpAny_bind (wpAny_typeOf hTs ?_)
  rw [if_pos (by decide)]
  refine wpAny_bind (sliceApplied_gen hs pl pu ?_)
  have hno : ¬ ((((sIx items.size 0 lo : Nat) : Int) == 0 && (1 : Int) == 1 && (sIx items.size items.size hi - sIx items.size 0 lo) == items.size) = true) := by
    intro q
    rw [Bool.and_eq_true, Bool.and_eq_true] at q
    have q1 : ((sIx items.size 0 lo : Nat) : Int) = 0 := eq_of_beq q.1.1
    have q2 : sIx items.size items.size hi - sIx items.size 0 lo = items.size := eq_of_beq q.2
    exact hw ⟨by omega, by omega⟩
  show wpAny _ _ (if (((sIx items.size 0 lo : Nat) : Int) == 0 && (1 : Int) == 1 && (sIx items.size items.size hi - sIx items.size 0 lo) == items.size) = true then _ else _) _ _ s
  rw [if_neg hno, pick_gen]
  first
    | exact wpAny_bind (m := Builtin.Tuple.tupleExact _) (wpAny_newObj_type (wpAny_pure ⟨_, rfl, wpAny_pure h⟩) htake)
    | exact wpAny_bind (m := Builtin.Tuple.tupleExact _) (wpAny_newObj_type (wpAny_bind (wpAny_pure (wpAny_pure ⟨_, rfl, wpAny_pure h⟩))) htake)
    | exact wpAny_bind (wpAny_bind (m := Builtin.Tuple.tupleExact _) (wpAny_newObj_type (wpAny_pure (wpAny_pure ⟨_, rfl, wpAny_pure h⟩)) htake))
    | exact wpAny_bind (wpAny_bind (m := Builtin.Tuple.tupleExact _) (wpAny_newObj_type (wpAny_pure ⟨_, rfl, wpAny_pure h⟩) htake))
end
end HT

namespace L2
open PySem PySem.Spec PyProof.Rows

/-! ### the parts of a slice -/
abbrev TO := St → Hp → (Option Int → Hp → Prop) → Prop
/-- a slice's part (left out, or an int) -/
def PO (X : Cx) (e : Option Expr) (t : TO) : Prop :=
  ∀ (pins : List (Addr × Obj)) (s : Shared) (σ : St) (H : Hp) (Q : Option Int → Hp → Prop), Inv X pins σ H s → t σ H Q →
    wpAny (model X.prog X.w) X.A (evalPart e X.env) (fun u s' => ∃ o H', Inv X pins σ H' s' ∧ IsPart u o ∧ Q o H') X.xe s
def tNoPart : TO := fun _ H Q => Q none H
def tPart (t : TE) : TO := fun σ H Q => t σ H fun x H1 => ∃ i, x = .int i ∧ Q (some i) H1

theorem intsAre_of {ns : List Int} : ∀ {us : List Value}, Vals (ns.map V.int) us → IntsAre us ns := by
  induction ns with
  | nil => intro us r; rw [List.map_nil] at r; cases r; exact .nil
  | cons n ns ih =>
    intro us r
    rw [List.map_cons] at r
    cases r with
    | cons r1 r2 =>
      obtain ⟨t, e⟩ := r1
      subst e
      exact .cons n t (ih r2)

section
variable {X : Cx} {e : Expr} {te : TE} {lo hi : Option Expr} {tl th : TO} {pos p2 : Pos}

theorem po_none : PO X none tNoPart := by
  intro pins s σ H Q I h
  rw [evalPart_none]
  exact wpAny_pure ⟨none, H, I, .none, h⟩
theorem po_some (h : PE X e te) : PO X (some e) (tPart te) := by
  intro pins s σ H Q I hw
  rw [evalPart_some]
  refine thn (h pins s σ H _ I hw) fun u s1 ⟨x, H1, I1, r1, q1⟩ => ?_
  obtain ⟨i, rfl, q⟩ := q1
  obtain ⟨t, rfl⟩ := r1
  exact ⟨some i, H1, I1, .int i t, q⟩

/-- what a slice of a value is, by values: the slice object stands at sl -/
def SlR (X : Cx) (r : V → Option Int → Option Int → Hp → VK → Prop) : Prop :=
  ∀ (pins : List (Addr × Obj)) (s : Shared) (σ : St) (H : Hp) (x : V) (v vl vu : Value) (lo hi : Option Int) (sl : Addr) (Q : VK), Inv X pins σ H s → RelV x v → s.heap.IsSliceOf sl vl vu .none → IsPart vl lo → IsPart vu hi → r x lo hi H Q →
    ∃ T id, typeLookup (.type T) "__getitem__" = pure (some (.builtin id)) ∧ s.TypeIs v T ∧ wpAny (model X.prog X.w) X.A (getItem v (.ref sl)) (EP X pins σ Q) X.xe s
theorem SlR.or {r r' : V → Option Int → Option Int → Hp → VK → Prop} (h : SlR X r) (h' : SlR X r') : SlR X (fun x lo hi H Q => r x lo hi H Q ∨ r' x lo hi H Q) := by
  intro pins s σ H x v vl vu lo hi sl Q I rx hs pl pu q
  rcases q with q | q
  · exact h pins s σ H x v vl vu lo hi sl Q I rx hs pl pu q
  · exact h' pins s σ H x v vl vu lo hi sl Q I rx hs pl pu q
def tSl (r : V → Option Int → Option Int → Hp → VK → Prop) (te : TE) (tl th : TO) : TE := fun σ H Q => te σ H fun x H1 => tl σ H1 fun l H2 => th σ H2 fun u H3 => r x l u H3 Q
/-- a[lo:hi], any a -/
theorem pe_slice {r : V → Option Int → Option Int → Hp → VK → Prop} (hr : SlR X r) (he : PE X e te) (hl : PO X lo tl) (hu : PO X hi th) : PE X (.Subscript e (.Slice lo hi none p2) pos) (tSl r te tl th) := by
  intro pins s σ H Q I h
  refine Subscript_ (thn (he pins s σ H _ I h) fun v s1 ⟨x, H1, I1, r1, q1⟩ => ?_)
  refine wpAny_Slice (thn (hl pins s1 σ H1 _ I1 q1) fun vl s2 ⟨l, H2, I2, pl, q2⟩ => thn (hu pins s2 σ H2 _ I2 q2) fun vu s3 ⟨u, H3, I3, pu, q3⟩ => ?_)
  rw [evalPart_none]
  refine wpAny_pure ?_
  have I4 : Inv X pins σ H3 { s3 with heap := s3.heap.push { cls := .type "slice", data := .fields #[vl, vu, .none] } } := I3.kept (t' := s3.toks) fun b ob q => Heap.get?_push_of_some _ q
  obtain ⟨T, id, hT, ht, hg⟩ := hr pins { s3 with heap := s3.heap.push { cls := .type "slice", data := .fields #[vl, vu, .none] } } σ H3 x v vl vu l u s3.heap.objs.size Q I4 r1 (Heap.IsSliceOf.new ..) pl pu q3
  show wpAny (model X.prog X.w) X.A (subscriptTail e (.Slice lo hi none p2) v (.ref s3.heap.objs.size)) (EP X pins σ Q) X.xe { s3 with heap := s3.heap.push { cls := .type "slice", data := .fields #[vl, vu, .none] } }
  exact tail_any (ops := [.ref s3.heap.objs.size, v]) ht hT hg (by with_unfolding_all rfl)

/-- the items of xs[lo:hi] -/
def cutV (xs : List V) (lo hi : Option Int) : List V := (xs.drop (HT.sIx xs.length 0 lo)).take (HT.sIx xs.length xs.length hi - HT.sIx xs.length 0 lo)
theorem cutV_length (xs : List V) (lo hi : Option Int) : (cutV xs lo hi).length ≤ xs.length := by
  unfold cutV
  rw [List.length_take, List.length_drop]
  omega
/-- t[lo:hi], not the whole of it (the whole would be t itself) -/
def rSlT (K : PySem.W.Frag) : V → Option Int → Option Int → Hp → VK → Prop := fun x lo hi H Q => ∃ a xs, x = .ref a ∧ SqT K H a xs ∧
  ¬ (HT.sIx xs.length 0 lo = 0 ∧ HT.sIx xs.length xs.length hi = xs.length) ∧ ∀ p, H p = none → Q (.ref p) (upd H p (.tup (cutV xs lo hi)))
theorem sl_tup : SlR X (rSlT X.K) := by
  intro pins s σ H x v vl vu lo hi sl Q I rx hs pl pu h
  obtain ⟨a, xs, rfl, hx, hw, q⟩ := h
  cases rx
  obtain ⟨its, r, ht, hz⟩ := I.tuple hx
  have hlen : its.toArray.size = xs.length := by rw [List.size_toArray]; exact r.length.symm
  refine ⟨"tuple", _, PyProof.Rows.slot_tuple_getitem.lookup, ht.typeIs, ?_⟩
  refine HT.getItem_tuple_cut ht hs pl pu (by rw [hlen]; exact hw) ?_ (by rw [hlen]; exact hz)
  rw [hlen]
  refine ⟨.ref s.heap.objs.size, _, I.laid (t' := s.toks) (o := .tup (cutV xs lo hi)) (fun b ob q => Heap.get?_push_of_some _ q) (Nat.le_refl _) ?_, rfl, q _ (I.hok.fresh (Nat.le_refl _))⟩
  exact ⟨Nat.le_trans (cutV_length xs lo hi) hz, _, (r.drop (HT.sIx xs.length 0 lo)).take (HT.sIx xs.length xs.length hi - HT.sIx xs.length 0 lo), IsTup.new _ _⟩

/-! ### t < u, t + u -/
def rLtT (K : PySem.W.Frag) : R2 := fun x y H Q => ∃ a b ns ms, x = .ref a ∧ y = .ref b ∧ SqT K H a (ns.map V.int) ∧ SqT K H b (ms.map V.int) ∧ Q (.bl (HT.lexLt ns ms)) H
theorem op_ltT (hu : X.A.units < cLine) : OpR X (compareOp .Lt) (rLtT X.K) := by
  intro pins s σ H x y v u Q I rx ry h
  obtain ⟨a, b, ns, ms, rfl, rfl, ha, hb, q⟩ := h
  cases rx
  cases ry
  obtain ⟨its, r1, p1, _⟩ := I.tuple ha
  obtain ⟨its2, r2, p2, _⟩ := I.tuple hb
  have i1 : IntsAre its.toArray.toList ns := intsAre_of r1
  have i2 : IntsAre its2.toArray.toList ms := intsAre_of r2
  exact HT.lt_tupInts p1 p2 i1 i2 hu ⟨.bl (HT.lexLt ns ms), H, I, rfl, q⟩
/-- t + u, t not empty: u empty gives t itself -/
def rCatT (K : PySem.W.Frag) : R2 := fun x y H Q => ∃ a b xs ys, x = .ref a ∧ y = .ref b ∧ SqT K H a xs ∧ SqT K H b ys ∧ xs ≠ [] ∧ xs.length + ys.length ≤ sizeLine ∧
  (ys = [] → Q (.ref a) H) ∧ (ys ≠ [] → ∀ p, H p = none → Q (.ref p) (upd H p (.tup (xs ++ ys))))
theorem Vals.nil_iff {xs : List V} {us : List Value} (r : Vals xs us) : us = [] ↔ xs = [] := by
  cases r with
  | nil => simp
  | cons _ _ => simp
theorem op_catT : OpR X (binaryOp .Add) (rCatT X.K) := by
  intro pins s σ H x y v u Q I rx ry h
  obtain ⟨a, b, xs, ys, rfl, rfl, ha, hb, hx, hz, q1, q2⟩ := h
  cases rx
  cases ry
  obtain ⟨its, r1, p1, _⟩ := I.tuple ha
  obtain ⟨its2, r2, p2, _⟩ := I.tuple hb
  refine HT.cat_tup p1 p2 (fun z => hx (r1.nil_iff.mp z)) (fun z => ⟨.ref a, H, I, rfl, q1 (r2.nil_iff.mp z)⟩) (fun z => ?_) (by rw [← r1.length, ← r2.length]; exact hz)
  refine ⟨.ref s.heap.objs.size, _, I.laid (t' := s.toks) (o := .tup (xs ++ ys)) (fun b ob q => Heap.get?_push_of_some _ q) (Nat.le_refl _) ?_, rfl, q2 (fun w => z (r2.nil_iff.mpr w)) _ (I.hok.fresh (Nat.le_refl _))⟩
  exact ⟨by rw [List.length_append]; exact hz, _, r1.append r2, IsTup.new _ _⟩
/-- tuple(t) -/
theorem call_tupleT : CallR X (.type "tuple") (fun xs H Q => ∃ a ys, xs = [.ref a] ∧ SqT X.K H a ys ∧ Q (.ref a) H) := by
  intro pins s σ H xs us Q I r h
  obtain ⟨a, ys, rfl, ha, q⟩ := h
  obtain ⟨u, rfl, ru⟩ := vals1 r
  cases ru
  obtain ⟨its, _, p1, _⟩ := I.tuple ha
  exact call_tuple_same (items := its.toArray) p1 ⟨.ref a, H, I, rfl, q⟩
end
end L2

namespace L2
open PySem PySem.Spec PyProof.Rows

/-! ### places -/
/-- the place that an index of any sign means -/
def ixN (n : Nat) (i : Int) : Option Nat := if 0 ≤ i then (if i < n then some i.toNat else none) else if -(n : Int) ≤ i then some (i + n).toNat else none
def atI {α : Type} (xs : List α) (i : Int) : Option α := (ixN xs.length i).bind fun j => xs[j]?
theorem ixN_seq {n : Nat} {i : Int} {j : Nat} (h : ixN n i = some j) : seqIndex? i n = some j ∧ j < n ∧ -(n : Int) ≤ i ∧ i < n := by
  unfold ixN at h
  by_cases h0 : 0 ≤ i
  · rw [if_pos h0] at h
    by_cases h1 : i < n
    · rw [if_pos h1] at h
      have e : i.toNat = j := Option.some.inj h
      exact ⟨by rw [seqIndex_of h0 h1, e], by omega, by omega, h1⟩
    · rw [if_neg h1] at h; cases h
  · rw [if_neg h0] at h
    by_cases h1 : -(n : Int) ≤ i
    · rw [if_pos h1] at h
      have e : (i + n).toNat = j := Option.some.inj h
      exact ⟨by rw [seqIndex_neg (by omega) h1, e], by omega, h1, by omega⟩
    · rw [if_neg h1] at h; cases h
theorem atI_get {α : Type} {xs : List α} {i : Int} {v : α} (h : atI xs i = some v) : ∃ j, seqIndex? i xs.length = some j ∧ xs[j]? = some v ∧ j < xs.length ∧ -(xs.length : Int) ≤ i ∧ i < xs.length := by
  unfold atI at h
  cases e : ixN xs.length i with
  | none => rw [e] at h; cases h
  | some j =>
    rw [e] at h
    obtain ⟨h1, h2, h3, h4⟩ := ixN_seq e
    exact ⟨j, h1, h, h2, h3, h4⟩
theorem atI_nat {α : Type} {xs : List α} {j : Nat} {v : α} (h : xs[j]? = some v) : atI xs (j : Int) = some v := by
  have hj : j < xs.length := (List.getElem?_eq_some_iff.mp h).1
  have e : ixN xs.length (j : Int) = some j := by
    unfold ixN
    rw [if_pos (by omega), if_pos (by omega)]; simp
  unfold atI; rw [e]; exact h
theorem atI_last {α : Type} (xs : List α) (v : α) : atI (xs ++ [v]) (-1) = some v := by
  have hl : (xs ++ [v]).length = xs.length + 1 := by simp
  have e : ixN (xs ++ [v]).length (-1) = some xs.length := by
    unfold ixN
    rw [hl, if_neg (by decide), if_pos (by omega)]
    congr 1
    omega
  unfold atI
  rw [e]
  show (xs ++ [v])[xs.length]? = some v
  simp

/-! ### what may be subscripted -/
/-- what stands as an index of a plain subscript -/
def PlainIx (b : Expr) : Prop := ∀ o i, subscripted b false o i = operate [o, i] (getItem o i)
/-- a subscript by values -/
def IxR (X : Cx) (r : R2) : Prop :=
  ∀ (value slice : Expr) (pins : List (Addr × Obj)) (s : Shared) (σ : St) (H : Hp) (x y : V) (v u : Value) (Q : VK), Inv X pins σ H s → RelV x v → RelV y u → r x y H Q →
    subscripted slice false v u = operate [v, u] (getItem v u) → wpAny (model X.prog X.w) X.A (subscriptTail value slice v u) (EP X pins σ Q) X.xe s
/-- a call of a builtin's method by values: the receiver, the arguments -/
def MtR (X : Cx) (id : String) (r : V → List V → Hp → VK → Prop) : Prop :=
  ∀ (pins : List (Addr × Obj)) (s : Shared) (σ : St) (H : Hp) (x : V) (xs : List V) (v : Value) (us : List Value) (Q : VK), Inv X pins σ H s → RelV x v → Vals xs us → r x xs H Q →
    wpAny (model X.prog X.w) X.A (call (.builtin id) (v :: us)) (EP X pins σ Q) X.xe s
section
variable {X : Cx} {a b : Expr} {ta tb : TE} {pos : Pos}
theorem IxR.or {r r' : R2} (h : IxR X r) (h' : IxR X r') : IxR X (fun x y H Q => r x y H Q ∨ r' x y H Q) := by
  intro value slice pins s σ H x y v u Q I rx ry q hs
  rcases q with q | q
  · exact h value slice pins s σ H x y v u Q I rx ry q hs
  · exact h' value slice pins s σ H x y v u Q I rx ry q hs
theorem MtR.or {id : String} {r r' : V → List V → Hp → VK → Prop} (h : MtR X id r) (h' : MtR X id r') : MtR X id (fun x xs H Q => r x xs H Q ∨ r' x xs H Q) := by
  intro pins s σ H x xs v us Q I rx rs q
  rcases q with q | q
  · exact h pins s σ H x xs v us Q I rx rs q
  · exact h' pins s σ H x xs v us Q I rx rs q
/-- a[b] -/
theorem pe_ix {r : R2} (hr : IxR X r) (ha : PE X a ta) (hb : PE X b tb) (hs : PlainIx b) : PE X (.Subscript a b pos) (tOp r ta tb) := by
  intro pins s σ H Q I h
  exact Subscript_ (binT ha hb I h fun v u s2 x y H2 I2 rx ry q => hr a b pins s2 σ H2 x y v u Q I2 rx ry q (hs _ _))

def rIxL (K : PySem.W.Frag) : R2 := fun x y H Q => ∃ p xs i v, x = .ref p ∧ y = .int i ∧ SqL K H p xs ∧ atI xs i = some v ∧ Q v H
def rIxT (K : PySem.W.Frag) : R2 := fun x y H Q => ∃ p xs i v, x = .ref p ∧ y = .int i ∧ SqT K H p xs ∧ atI xs i = some v ∧ Q v H
def rIxS : R2 := fun x y H Q => ∃ z i c, x = .str z ∧ y = .int i ∧ z.length ≤ sizeLine ∧ atI z.cps.toList i = some c ∧ Q (.str ⟨#[c]⟩) H
theorem ix_list : IxR X (rIxL X.K) := by
  intro value slice pins s σ H x y v u Q I rx ry h hs
  obtain ⟨p, xs, i, z, rfl, rfl, hq, he, q⟩ := h
  cases rx
  obtain ⟨t, rfl⟩ := ry
  obtain ⟨its, r, pl, hz⟩ := I.list hq
  obtain ⟨j, h1, h2, h3, h4, h5⟩ := atI_get he
  obtain ⟨w, ew, rw'⟩ := r.get h2
  have hl := r.length
  have hn := line63
  have fin : EP X pins σ Q w s := ⟨z, H, I, rw', q⟩
  by_cases h0 : 0 ≤ i
  · have hj : i.toNat = j := by
      rw [seqIndex_of h0 h5] at h1
      exact Option.some.inj h1
    exact item_listR pl.isList h0 (by omega) (by rw [hj]; simpa using ew) fin hs
  · have hj : (i + (its.toArray.size : Int)).toNat = j := by
      rw [seqIndex_neg (by omega) h4] at h1
      rw [List.size_toArray, ← hl]
      exact Option.some.inj h1
    exact subscriptTail_builtinR (x := w) pl.isList.typeIs slot_list_getitem.lookup
      (wpAny_getItem_list_neg (Q := fun r s' => r = w ∧ EP X pins σ Q r s') pl.isList (by omega) (by rw [List.size_toArray] <;> omega) (by omega) (by rw [hj]; simpa using ew) ⟨rfl, fin⟩) hs
theorem ix_tup : IxR X (rIxT X.K) := by
  intro value slice pins s σ H x y v u Q I rx ry h hs
  obtain ⟨p, xs, i, z, rfl, rfl, hq, he, q⟩ := h
  cases rx
  obtain ⟨t, rfl⟩ := ry
  obtain ⟨its, r, pl, hz⟩ := I.tuple hq
  obtain ⟨j, h1, h2, h3, h4, h5⟩ := atI_get he
  obtain ⟨w, ew, rw'⟩ := r.get h2
  have hl := r.length
  have hn := line63
  have fin : EP X pins σ Q w s := ⟨z, H, I, rw', q⟩
  exact subscriptTail_builtinR (x := w) pl.typeIs slot_tuple_getitem.lookup
    (getItem_tuple (j := j) (Q := fun r s' => r = w ∧ EP X pins σ Q r s') pl (by omega) (by omega) (by rw [List.size_toArray, ← hl]; exact h1) (by simpa using ew) ⟨rfl, fin⟩) hs
theorem ix_str : IxR X rIxS := by
  intro value slice pins s σ H x y v u Q I rx ry h hs
  obtain ⟨z, i, c, rfl, rfl, hz, he, q⟩ := h
  obtain ⟨t, rfl⟩ := rx
  obtain ⟨t', rfl⟩ := ry
  obtain ⟨j, h1, h2, h3, h4, h5⟩ := atI_get he
  have hl : z.cps.toList.length = z.length := by simp [Str.length]
  rw [hl] at h1 h4 h5
  have hn := line63
  exact tail_any (typeIs_str s z t) slot_str_getitem.lookup (getItem_str (c := c) (by
    have e1 : decide (i < -(2 ^ 63 : Int)) = false := decide_eq_false (by omega)
    have e2 : decide (i ≥ 2 ^ 63) = false := decide_eq_false (by omega)
    rw [e1, e2, Bool.or_false]) (by rw [h1]; simpa using h2) ⟨.str ⟨#[c]⟩, H, I.tok _, ⟨_, rfl⟩, q⟩) hs
/-- list, tuple or str -/
def rIx (K : PySem.W.Frag) : R2 := fun x y H Q => rIxL K x y H Q ∨ rIxT K x y H Q ∨ rIxS x y H Q
theorem ix_seq : IxR X (rIx X.K) := ix_list.or (ix_tup.or ix_str)

/-! ### xs[i] = v, any sign -/
/-- the list's object behind a store -/
theorem mapSeq_set (its : List Value) (n j : Nat) (u : Value) : Obj.mapSeq (·.setIfInBounds j u) { cls := .type "list", data := .seq its.toArray n } = { cls := .type "list", data := .seq (its.set j u).toArray n } := by
  simp [Obj.mapSeq]
theorem Inv.lst {pins : List (Addr × Obj)} {σ : St} {H : Hp} {s : Shared} {p : Addr} {xs : List V} (I : Inv X pins σ H s) (h : H p = some (.lst xs)) :
    ∃ (its : List Value) (n : Nat), Vals xs its ∧ s.heap.get? p = some { cls := .type "list", data := .seq its.toArray n } ∧ xs.length ≤ sizeLine := by
  obtain ⟨z, its, n, r, e⟩ := I.hok p _ h
  exact ⟨its, n, r, e, z⟩
/-- the list at p is written by an update of its object -/
theorem Inv.lstUpd {pins : List (Addr × Obj)} {σ : St} {H : Hp} {s : Shared} {p : Addr} {xs ys : List V} {its its' : List Value} {n n' : Nat} {f : Obj → Obj} (I : Inv X pins σ H s) (h : H p = some (.lst xs))
    (ho : s.heap.get? p = some { cls := .type "list", data := .seq its.toArray n }) (hf : f { cls := .type "list", data := .seq its.toArray n } = { cls := .type "list", data := .seq its'.toArray n' }) (r : Vals ys its') (hz : ys.length ≤ sizeLine) (t : Nat) :
    Inv X pins σ (upd H p (.lst ys)) { s with heap := s.heap.update p f, toks := t } := by
  have e : (s.heap.update p f).get? p = some { cls := .type "list", data := .seq its'.toArray n' } := by
    rw [Heap.get?_update_self f ho (by rw [hf] <;> rfl), hf]
  refine I.write (x := p) (e := p) (by rw [h]; trivial) (.inl rfl) (fun b u hb q => (Heap.get?_update_other _ _ (Ne.symm hb)).trans q) ⟨_, e⟩ ?_
  exact ⟨hz, its', n', r, e⟩
def rSetL : V → V → V → Hp → (Hp → Prop) → Prop := fun o i v H Q => ∃ p xs k j, o = .ref p ∧ i = .int k ∧ H p = some (.lst xs) ∧ ixN xs.length k = some j ∧ Q (upd H p (.lst (xs.set j v)))
theorem set_list : PSet X rSetL := by
  intro pins s σ H o i v ov iv u Q I ro ri rv h
  obtain ⟨p, xs, k, j, rfl, rfl, hp, hj, q⟩ := h
  cases ro
  obtain ⟨t, rfl⟩ := ri
  obtain ⟨its, n, r, ho, hz⟩ := I.lst hp
  obtain ⟨h1, h2, h3, h4⟩ := ixN_seq hj
  have hl := r.length
  have hn := line63
  have I' : Inv X pins σ (upd H p (.lst (xs.set j v))) { s with heap := s.heap.update p (Obj.mapSeq (·.setIfInBounds j u)) } :=
    I.lstUpd hp ho (mapSeq_set its n j u) (r.set rv j) (by rw [List.length_set]; exact hz) s.toks
  by_cases h0 : 0 ≤ k
  · have hk : k.toNat = j := by
      rw [seqIndex_of h0 h4] at h1
      exact Option.some.inj h1
    exact PySem.W.ki_setAt ho h0 (by omega) (by rw [List.size_toArray, ← hl]; exact h4) (by rw [hk]; exact ⟨_, I', q⟩)
  · have hk : (k + (its.toArray.size : Int)).toNat = j := by
      rw [seqIndex_neg (by omega) h3] at h1
      rw [List.size_toArray, ← hl]
      exact Option.some.inj h1
    exact PySem.W.ki_setBack ho (by omega) (by rw [List.size_toArray, ← hl]; exact h3) (by omega) (by rw [hk]; exact ⟨_, I', q⟩)

/-! ### slices -/
theorem slice_bounds (lo hi : Option Int) (n : Nat) : (sliceBounds lo hi none n).1 = ((HT.sIx n 0 lo : Nat) : Int) ∧ (sliceBounds lo hi none n).2.1 = ((HT.sIx n n hi : Nat) : Int) ∧ (sliceBounds lo hi none n).2.2 = 1 := by
  refine ⟨?_, ?_, rfl⟩
  · cases lo with
    | none => simp [sliceBounds, HT.sIx]
    | some i =>
      simp only [sliceBounds, HT.sIx, Option.getD_none, show (1 : Int) > 0 by decide, if_true]
      by_cases h : i < 0
      · simp only [h, if_true] <;> omega
      · simp only [h, if_false] <;> omega
  · cases hi with
    | none => simp [sliceBounds, HT.sIx]
    | some i =>
      simp only [sliceBounds, HT.sIx, Option.getD_none, show (1 : Int) > 0 by decide, if_true]
      by_cases h : i < 0
      · simp only [h, if_true] <;> omega
      · simp only [h, if_false] <;> omega
theorem slicePick_cut (its : List Value) (lo hi : Option Int) : slicePick its.toArray lo hi none = ((its.drop (HT.sIx its.length 0 lo)).take (HT.sIx its.length its.length hi - HT.sIx its.length 0 lo)).toArray := by
  obtain ⟨h1, h2, h3⟩ := slice_bounds lo hi its.toArray.size
  unfold slicePick
  rw [h1, h2, h3]
  simp only [sliceRange_one, pick_run, List.size_toArray] <;> rfl
/-- xs[lo:hi] of a list: a new list -/
def rSlL (K : PySem.W.Frag) : V → Option Int → Option Int → Hp → VK → Prop := fun x lo hi H Q => ∃ a xs, x = .ref a ∧ SqL K H a xs ∧ ∀ p, H p = none → Q (.ref p) (upd H p (.lst (cutV xs lo hi)))
theorem sl_list : SlR X (rSlL X.K) := by
  intro pins s σ H x v vl vu lo hi sl Q I rx hs pl pu h
  obtain ⟨a, xs, rfl, hx, q⟩ := h
  cases rx
  obtain ⟨its, r, ht, hz⟩ := I.list hx
  have hlen := r.length
  refine ⟨"list", _, slot_list_getitem.lookup, ht.isList.typeIs, ?_⟩
  refine wpAny_getItem_list_slice ht.isList hs pl pu .none (by simp) ?_ (by rw [List.size_toArray] <;> omega)
  rw [slicePick_cut, ← hlen]
  refine ⟨.ref s.heap.objs.size, _, I.laid (t' := s.toks) (o := .lst (cutV xs lo hi)) (fun b ob q => Heap.get?_push_of_some _ q) (Nat.le_refl _) ?_, rfl, q _ (I.hok.fresh (Nat.le_refl _))⟩
  exact ⟨Nat.le_trans (cutV_length xs lo hi) hz, _, 0, (r.drop (HT.sIx xs.length 0 lo)).take (HT.sIx xs.length xs.length hi - HT.sIx xs.length 0 lo), Heap.get?_push_size _ rfl⟩

/-! ### in, not in: flat items -/
def flatV : V → Bool
  | .non => true
  | .bl _ => true
  | .int _ => true
  | .str _ => true
  | _ => false
/-- == of flat values -/
def eqV : V → V → Bool
  | .non, .non => true
  | .bl a, .bl b => a == b
  | .bl a, .int b => (if a then 1 else 0) == b
  | .int a, .bl b => a == (if b then 1 else 0)
  | .int a, .int b => a == b
  | .str a, .str b => a == b
  | _, _ => false
theorem eqAt_V {A : Around} {s : Shared} {y x : V} {u v : Value} (ry : RelV y u) (rx : RelV x v) (fy : flatV y = true) (fx : flatV x = true) : SeqAt.EqAt A s u v (eqV y x) := by
  cases y with
  | non =>
    cases ry
    cases x with
    | non => cases rx; exact SeqAt.EqAt.same _
    | bl b => cases rx; exact SeqAt.EqAt.none_bool b
    | int b => obtain ⟨t, rfl⟩ := rx; exact SeqAt.EqAt.none_int b t
    | str b => obtain ⟨t, rfl⟩ := rx; exact SeqAt.EqAt.none_str b t
    | _ => exact absurd (show false = true from fx) Bool.false_ne_true
  | bl a =>
    cases ry
    cases x with
    | non => cases rx; exact SeqAt.EqAt.bool_none a
    | bl b => cases rx; exact SeqAt.EqAt.bool_bool a b
    | int b => obtain ⟨t, rfl⟩ := rx; exact SeqAt.EqAt.bool_int a b t
    | str b => obtain ⟨t, rfl⟩ := rx; exact SeqAt.EqAt.bool_str a b t
    | _ => exact absurd (show false = true from fx) Bool.false_ne_true
  | int a =>
    obtain ⟨t', rfl⟩ := ry
    cases x with
    | non => cases rx; exact SeqAt.EqAt.int_none a t'
    | bl b => cases rx; exact SeqAt.EqAt.int_bool a t' b
    | int b => obtain ⟨t, rfl⟩ := rx; exact SeqAt.EqAt.int_int a t' b t
    | str b => obtain ⟨t, rfl⟩ := rx; exact SeqAt.EqAt.int_str a t' b t
    | _ => exact absurd (show false = true from fx) Bool.false_ne_true
  | str a =>
    obtain ⟨t', rfl⟩ := ry
    cases x with
    | non => cases rx; exact SeqAt.EqAt.str_none a t'
    | bl b => cases rx; exact SeqAt.EqAt.str_bool a t' b
    | int b => obtain ⟨t, rfl⟩ := rx; exact SeqAt.EqAt.str_int a t' b t
    | str b => obtain ⟨t, rfl⟩ := rx; exact SeqAt.EqAt.str_str a t' b t
    | _ => exact absurd (show false = true from fx) Bool.false_ne_true
  | _ => exact absurd (show false = true from fy) Bool.false_ne_true
/-- the items' answers, read off the values (a value's own answer does not lean on its token) -/
def eqU (x : V) (u : Value) : Bool := match u with
  | .none => eqV .non x
  | .bool b => eqV (.bl b) x
  | .int i _ => eqV (.int i) x
  | .str z _ => eqV (.str z) x
  | _ => false
theorem eqU_of {x y : V} {u : Value} (r : RelV y u) (f : flatV y = true) : eqU x u = eqV y x := by
  cases y with
  | non => cases r; rfl
  | bl b => cases r; rfl
  | int i => obtain ⟨t, rfl⟩ := r; rfl
  | str z => obtain ⟨t, rfl⟩ := r; rfl
  | _ => exact absurd (show false = true from f) Bool.false_ne_true
theorem any_eqU {x : V} : ∀ {xs : List V} {us : List Value}, Vals xs us → xs.all flatV = true → us.any (eqU x) = xs.any fun y => eqV y x
  | _, _, .nil, _ => rfl
  | y :: xs, u :: us, .cons r t, f => by
    rw [List.all_cons, Bool.and_eq_true] at f
    rw [List.any_cons, List.any_cons, eqU_of r f.1, any_eqU t f.2]
theorem mem_eqAt {A : Around} {s : Shared} {x : V} {v : Value} (rx : RelV x v) (fx : flatV x = true) : ∀ {xs : List V} {us : List Value}, Vals xs us → xs.all flatV = true → ∀ u ∈ us, SeqAt.EqAt A s u v (eqU x u)
  | _, _, .nil, _ => fun u hu => by cases hu
  | y :: xs, u :: us, .cons r t, f => fun u' hu => by
    rw [List.all_cons, Bool.and_eq_true] at f
    rcases List.mem_cons.mp hu with rfl | hu
    · rw [eqU_of r f.1]; exact eqAt_V r rx f.1 fx
    · exact mem_eqAt rx fx t f.2 u' hu
def inV (x : V) (xs : List V) : Bool := xs.any fun y => eqV y x
/-- x in a list or tuple of flat items -/
def rIn (K : PySem.W.Frag) (neg : Bool) : R2 := fun x y H Q => ∃ p xs, y = .ref p ∧ (SqL K H p xs ∨ SqT K H p xs) ∧ flatV x = true ∧ xs.all flatV = true ∧ Q (.bl (if neg then !inV x xs else inV x xs)) H
theorem op_in_seq : OpR X (compareOp .In) (rIn X.K false) := by
  intro pins s σ H x y v u Q I rx ry h
  obtain ⟨p, xs, rfl, hq, fx, fs, q⟩ := h
  cases ry
  rcases hq with hq | hq
  · obtain ⟨its, r, pl, hz⟩ := I.list hq
    refine SeqAt.in_listAt (eqU x) pl.isList (fun w hw => mem_eqAt rx fx r fs w (by simpa using hw)) ⟨.bl _, H, I, rfl, ?_⟩
    rw [show its.toArray.any (eqU x) = its.any (eqU x) by simp, any_eqU r fs]
    exact q
  · obtain ⟨its, r, pl, hz⟩ := I.tuple hq
    refine SeqAt.in_tupleAt (eqU x) pl (fun w hw => mem_eqAt rx fx r fs w (by simpa using hw)) ⟨.bl _, H, I, rfl, ?_⟩
    rw [show its.toArray.any (eqU x) = its.any (eqU x) by simp, any_eqU r fs]
    exact q
theorem op_notIn_seq : OpR X (compareOp .NotIn) (rIn X.K true) := by
  intro pins s σ H x y v u Q I rx ry h
  obtain ⟨p, xs, rfl, hq, fx, fs, q⟩ := h
  cases ry
  rcases hq with hq | hq
  · obtain ⟨its, r, pl, hz⟩ := I.list hq
    refine SeqAt.notIn_listAt (eqU x) pl.isList (fun w hw => mem_eqAt rx fx r fs w (by simpa using hw)) ⟨.bl _, H, I, rfl, ?_⟩
    rw [show its.toArray.any (eqU x) = its.any (eqU x) by simp, any_eqU r fs]
    exact q
  · obtain ⟨its, r, pl, hz⟩ := I.tuple hq
    refine SeqAt.notIn_tupleAt (eqU x) pl (fun w hw => mem_eqAt rx fx r fs w (by simpa using hw)) ⟨.bl _, H, I, rfl, ?_⟩
    rw [show its.toArray.any (eqU x) = its.any (eqU x) by simp, any_eqU r fs]
    exact q
theorem op_notIn_str : OpR X (compareOp .NotIn) (fun x y H Q => ∃ i j, x = .str i ∧ y = .str j ∧ Q (.bl (!(!(Builtin.Str.occurrences j i 0 j.length 1).isEmpty))) H) := by
  intro pins s σ H x y v u Q I rx ry h
  obtain ⟨i, j, rfl, rfl, q⟩ := h
  obtain ⟨t, rfl⟩ := rx
  obtain ⟨t', rfl⟩ := ry
  exact notIn_str ⟨.bl _, H, I, rfl, q⟩

/-! ### len, list(x), tuple(x) of any list or tuple that is read -/
theorem call_len_seq : CallR X (.builtin "len") (fun xs H Q => ∃ p ys, xs = [.ref p] ∧ (SqL X.K H p ys ∨ SqT X.K H p ys) ∧ Q (.int ys.length) H) := by
  intro pins s σ H xs us Q I r h
  obtain ⟨p, ys, rfl, hq, q⟩ := h
  obtain ⟨u, rfl, rx⟩ := vals1 r
  cases rx
  have hn := line63
  rcases hq with hq | hq
  · obtain ⟨its, r', pl, hz⟩ := I.list hq
    have hlen := r'.length
    exact Calls.call_len_list pl.isList (by simp only [List.size_toArray] <;> omega) ⟨.int ys.length, H, I.tok _, ⟨s.toks + 1, by rw [List.size_toArray, hlen]⟩, q⟩
  · obtain ⟨its, r', pl, hz⟩ := I.tuple hq
    have hlen := r'.length
    exact len_tuple pl (by simp only [List.size_toArray] <;> omega) ⟨.int ys.length, H, I.tok _, ⟨s.toks + 1, by rw [List.size_toArray, hlen]⟩, q⟩
theorem call_len_str : CallR X (.builtin "len") (fun xs H Q => ∃ z, xs = [.str z] ∧ z.length ≤ sizeLine ∧ Q (.int z.length) H) := by
  intro pins s σ H xs us Q I r h
  obtain ⟨z, rfl, hz, q⟩ := h
  obtain ⟨u, rfl, t, rfl⟩ := vals1 r
  have hn := line63
  exact len_str (by omega) ⟨.int z.length, H, I.tok _, ⟨_, rfl⟩, q⟩
theorem CallR.or {f : Value} {r r' : List V → Hp → VK → Prop} (h : CallR X f r) (h' : CallR X f r') : CallR X f (fun xs H Q => r xs H Q ∨ r' xs H Q) := by
  intro pins s σ H xs us Q I rs q
  rcases q with q | q
  · exact h pins s σ H xs us Q I rs q
  · exact h' pins s σ H xs us Q I rs q
theorem call_list_of : CallR X (.type "list") (fun xs H Q => ∃ p ys, xs = [.ref p] ∧ (SqL X.K H p ys ∨ SqT X.K H p ys) ∧ ∀ l, H l = none → Q (.ref l) (upd H l (.lst ys))) := by
  intro pins s σ H xs us Q I r h
  obtain ⟨p, ys, rfl, hq, q⟩ := h
  obtain ⟨u, rfl, rx⟩ := vals1 r
  cases rx
  have fin : ∀ (its : List Value), Vals ys its → ys.length ≤ sizeLine → ∀ (h' : Heap) (c' : Nat), (∀ b o', s.heap.get? b = some o' → h'.get? b = some o') →
      h'.get? s.heap.objs.size = some { cls := .type "list", dict := none, data := .seq its.toArray c', slots := #[] } → EP X pins σ Q (.ref s.heap.objs.size) { s with heap := h' } := fun its r' hz h' c' kp e =>
    ⟨.ref s.heap.objs.size, _, I.laid (t' := s.toks) kp (Nat.le_refl _) (show ObjOk X.prog X.w _ h' _ (.lst ys) from ⟨hz, its, c', r', e⟩), rfl, q _ (I.hok.fresh (Nat.le_refl _))⟩
  rcases hq with hq | hq
  · obtain ⟨its, r', pl, hz⟩ := I.list hq
    have hlen := r'.length
    obtain ⟨o, ho, hc, n, hd⟩ := pl.isList
    exact call_list_seq p (.inl rfl) ho hc hd (fun h' c' kp e => fin its r' hz h' c' kp e) (by simp only [List.size_toArray] <;> omega)
  · obtain ⟨its, r', pl, hz⟩ := I.tuple hq
    have hlen := r'.length
    obtain ⟨o, ho, hc, n, hd⟩ := pl
    exact call_list_seq p (.inr rfl) ho hc hd (fun h' c' kp e => fin its r' hz h' c' kp e) (by simp only [List.size_toArray] <;> omega)
theorem call_tuple_of : CallR X (.type "tuple") (fun xs H Q => ∃ p ys, xs = [.ref p] ∧ ((SqL X.K H p ys ∧ ∀ l, H l = none → Q (.ref l) (upd H l (.tup ys))) ∨ (SqT X.K H p ys ∧ Q (.ref p) H))) := by
  intro pins s σ H xs us Q I r h
  obtain ⟨p, ys, rfl, h⟩ := h
  obtain ⟨u, rfl, rx⟩ := vals1 r
  cases rx
  rcases h with ⟨hq, q⟩ | ⟨hq, q⟩
  · obtain ⟨its, r', pl, hz⟩ := I.list hq
    have hlen := r'.length
    refine call_tuple_list pl.isList (fun h' kp => ?_) (by simp only [List.size_toArray] <;> omega)
    have I1 : Inv X pins σ H { s with heap := h' } := I.kept (t' := s.toks) kp
    have I2 : Inv X pins σ (upd H h'.objs.size (.tup ys)) { s with heap := h'.push { cls := .type "tuple", data := .seq its.toArray } } :=
      I1.laid (t' := s.toks) (fun b o e => Heap.get?_push_of_some _ e) (Nat.le_refl _) (show ObjOk X.prog X.w _ _ _ (.tup ys) from ⟨hz, its, r', IsTup.new _ _⟩)
    exact ⟨.ref h'.objs.size, _, I2, rfl, q _ (I1.hok.fresh (Nat.le_refl _))⟩
  · obtain ⟨its, r', pl, hz⟩ := I.tuple hq
    exact call_tuple_same pl ⟨.ref p, H, I, rfl, q⟩

/-! ### the call of a builtin's method: o.m(..) -/
/-- the value is of that builtin type -/
def tyV (K : PySem.W.Frag) (T : String) (x : V) (H : Hp) : Prop := match x with
  | .str _ => T = "str"
  | .int _ => T = "int"
  | .ref p => (T = "list" ∧ ∃ xs, SqL K H p xs) ∨ (T = "tuple" ∧ ∃ o, K.lookup p = some o ∧ o.cls = .type "tuple" ∧ o.dict = none) ∨
      (T = "dict" ∧ ((∃ kvs, H p = some (.dK kvs)) ∨ ∃ kvs, H p = some (.dT kvs))) ∨ (T = "set" ∧ ∃ S n, H p = some (.set S n))
  | _ => False
theorem tyV_is {pins : List (Addr × Obj)} {σ : St} {H : Hp} {s : Shared} {T : String} {x : V} {v : Value} (I : Inv X pins σ H s) (r : RelV x v) (ty : tyV X.K T x H) :
    s.TypeIs v T ∧ ∀ a, v = .ref a → ∃ ob, s.heap.get? a = some ob ∧ ob.dict = none := by
  cases x with
  | str z =>
    obtain ⟨t, rfl⟩ := r
    cases (show T = "str" from ty)
    exact ⟨typeIs_str s z t, fun _ e => nomatch e⟩
  | int i =>
    obtain ⟨t, rfl⟩ := r
    cases (show T = "int" from ty)
    exact ⟨typeIs_int s i t, fun _ e => nomatch e⟩
  | ref p =>
    cases r
    rcases ty with ⟨rfl, xs, hq⟩ | ⟨rfl, o, hk, hc, hd⟩ | ⟨rfl, hk⟩ | ⟨rfl, S, n, hk⟩
    · obtain ⟨its, _, pl, _⟩ := I.list hq
      refine ⟨pl.isList.typeIs, fun a e => ?_⟩
      cases e
      obtain ⟨o, n, e, c, hd, _⟩ := pl
      exact ⟨o, e, hd⟩
    · refine ⟨⟨o, I.kIn p o hk, hc⟩, fun a e => ?_⟩
      cases e
      exact ⟨o, I.kIn _ o hk, hd⟩
    · have z : ∃ o, s.heap.get? p = some o ∧ o.ExactDict := by
        rcases hk with ⟨kvs, hk⟩ | ⟨kvs, hk⟩
        · obtain ⟨_, _, _, _, o, _, _, e, ex, _⟩ := I.hok p _ hk
          exact ⟨o, e, ex⟩
        · obtain ⟨_, _, _, _, o, _, _, e, ex, _⟩ := I.hok p _ hk
          exact ⟨o, e, ex⟩
      obtain ⟨o, e, ex⟩ := z
      refine ⟨⟨o, e, ex.1⟩, fun a e2 => ?_⟩
      cases e2
      exact ⟨o, e, ex.2.1⟩
    · obtain ⟨o, _, _, _, e, ex, _⟩ := I.hok p _ hk
      refine ⟨⟨o, e, ex.1⟩, fun a e2 => ?_⟩
      cases e2
      exact ⟨o, e, ex.2.1⟩
  | _ => exact False.elim ty
def tBM0 (K : PySem.W.Frag) (T : String) (r : V → List V → Hp → VK → Prop) (to : TE) : TE := fun σ H Q => to σ H fun x H1 => tyV K T x H1 ∧ r x [] H1 Q
def tBM (K : PySem.W.Frag) (T : String) (r : V → List V → Hp → VK → Prop) (to : TE) (t : TA) : TE := fun σ H Q => to σ H fun x H1 => tyV K T x H1 ∧ t σ H1 fun xs H2 => r x xs H2 Q
variable {o e : Expr} {es : List Expr} {to : TE} {t : TA} {name : Str} {apos cpos : Pos} {T id : String} {r : V → List V → Hp → VK → Prop}
theorem pe_bm0 (pa : PlainAttrs T) (slot : Slot T name id) (hty : typeOf (.builtin id) = pure (.type "method_descriptor")) (hm : MtR X id r) (ho : PE X o to)
    (hbase : attributeBase o name X.env (eval o X.env) = eval o X.env := by rfl) (hline : (apos.endLine == cpos.line) = true := by rfl) : PE X (.Call (.Attribute o name apos) [] [] cpos) (tBM0 X.K T r to) := by
  intro pins s σ H Q I h
  refine wpAny_Call_method0_late hbase hline (thn (ho pins s σ H _ I h) fun v s1 ⟨x, H1, I1, r1, ty, q1⟩ => ?_)
  obtain ⟨h1, h2⟩ := tyV_is I1 r1 ty
  exact ⟨T, id, pa, slot, hty, h1, h2, Calls.callWith_builtin rfl (PySem.evalArgs_none (hm pins s1 σ H1 x [] v [] Q I1 r1 .nil q1))⟩
theorem pe_bm (pa : PlainAttrs T) (slot : Slot T name id) (hty : typeOf (.builtin id) = pure (.type "method_descriptor")) (hm : MtR X id r) (ho : PE X o to) (ha : PA X (e :: es) t)
    (hbase : attributeBase o name X.env (eval o X.env) = eval o X.env := by rfl)
    (hfew : ((backTo cpos (starEach (e :: es) X.env)).all (fun x => !x.1) && (backToKw cpos (keywordEach [] X.env)).all (fun x => x.1.isSome)
      && decide ((e :: es).length + ([] : List Keyword).length + (if ([] : List Keyword).isEmpty then 0 else 1) < 30)) = true := by rfl)
    (hline : (apos.endLine == cpos.line) = true := by rfl) (hs : starEach (e :: es) X.env = (false, eval e X.env) :: starEach es X.env := by rfl) (hplain : (backTo cpos (starEach es X.env)).any (·.1) = false := by rfl) :
    PE X (.Call (.Attribute o name apos) (e :: es) [] cpos) (tBM X.K T r to t) := by
  intro pins s σ H Q I h
  refine wpAny_Call_method_late hbase hfew hline rfl (thn (ho pins s σ H _ I h) fun v s1 ⟨x, H1, I1, r1, ty, q1⟩ => ?_)
  obtain ⟨h1, h2⟩ := tyV_is I1 r1 ty
  refine ⟨T, id, pa, slot, hty, h1, h2, ?_⟩
  have hA := ha cpos pins s1 σ H1 _ I1 q1
  rw [hs] at hA ⊢
  refine Calls.callWith_builtin (by show (false || (backTo cpos (starEach es X.env)).any (·.1)) = false; rw [hplain] <;> rfl) (Calls.evalArgs_plain ?_)
  exact thn hA fun us s2 ⟨vs, H2, I2, r2, q2⟩ => hm pins s2 σ H2 x vs v us Q I2 r1 r2 q2
/- xs.append(e), list.index on a module's tuple .. are MtR facts of 06m -/
end
end L2

namespace L2
open PySem PySem.Spec PyProof.Rows

def MtM (X : Cx) (id : String) (r : V → List V → Hp → VK → Prop) : Prop :=
  ∀ (pins : List (Addr × Obj)) (s : Shared) (σ : St) (H : Hp) (x : V) (xs : List V) (v : Value) (us : List Value) (Q : VK), Inv X pins σ H s → RelV x v → Vals xs us → r x xs H Q →
    wpAny (model X.prog X.w) X.A (call (.builtin id) (v :: us)) (EP X pins σ Q) X.xe s

/-! ### lists of values -/
theorem Vals.one : ∀ {x : V} {us : List Value}, Vals [x] us → ∃ u, us = [u] ∧ RelV x u
  | _, _, .cons r .nil => ⟨_, rfl, r⟩
theorem Vals.two : ∀ {x y : V} {us : List Value}, Vals [x, y] us → ∃ u v, us = [u, v] ∧ RelV x u ∧ RelV y v
  | _, _, _, .cons r (.cons q .nil) => ⟨_, _, rfl, r, q⟩
theorem Vals.zero : ∀ {us : List Value}, Vals [] us → us = []
  | _, .nil => rfl
theorem Vals.dropLast {xs : List V} {us : List Value} (h : Vals xs us) : Vals xs.dropLast us.dropLast := by
  induction h with
  | nil => exact .nil
  | cons r t ih =>
    cases t with
    | nil => exact .nil
    | cons q t' => exact .cons r ih
theorem Vals.eraseIdx : ∀ {xs : List V} {us : List Value} (i : Nat), Vals xs us → Vals (xs.eraseIdx i) (us.eraseIdx i)
  | _, _, _, .nil => .nil
  | _, _, 0, .cons _ t => t
  | _, _, i + 1, .cons r t => .cons r (Vals.eraseIdx i t)
theorem Vals.reverse {xs : List V} {us : List Value} (h : Vals xs us) : Vals xs.reverse us.reverse := by
  induction h with
  | nil => exact .nil
  | cons r t ih => rw [List.reverse_cons, List.reverse_cons]; exact Vals.append ih (.cons r .nil)
theorem Vals.rep {xs : List V} {us : List Value} (h : Vals xs us) : ∀ k : Nat, Vals (List.replicate k xs).flatten (List.replicate k us).flatten
  | 0 => .nil
  | k + 1 => by
    rw [List.replicate_succ, List.replicate_succ, List.flatten_cons, List.flatten_cons]
    exact Vals.append h (Vals.rep h k)
theorem erase_last {α : Type} (l : List α) : l.eraseIdx (l.length - 1) = l.dropLast := by
  induction l with
  | nil => rfl
  | cons a r ih =>
    cases r with
    | nil => rfl
    | cons b r =>
      have e : (a :: b :: r).length - 1 = ((b :: r).length - 1) + 1 := by
        have h1 : (a :: b :: r).length = r.length + 2 := rfl
        have h2 : (b :: r).length = r.length + 1 := rfl
        omega
      rw [e, List.eraseIdx_cons_succ, ih]
      all_goals rfl
theorem len_erase {α : Type} : ∀ (l : List α) (i : Nat), (l.eraseIdx i).length ≤ l.length
  | [], _ => Nat.le_refl _
  | _ :: _, 0 => Nat.le_succ _
  | _ :: r, i + 1 => Nat.succ_le_succ (len_erase r i)
theorem foldl_rep (its : List Value) : ∀ (k : Nat) (acc : List Value),
    List.foldl (fun x1 x2 => x1 ++ x2) acc.toArray (List.replicate k its.toArray) = (acc ++ (List.replicate k its).flatten).toArray
  | 0, acc => by simp
  | k + 1, acc => by
    have e : acc.toArray ++ its.toArray = (acc ++ its).toArray := by simp
    have e2 : (acc ++ its) ++ (List.replicate k its).flatten = acc ++ (List.replicate (k + 1) its).flatten := by
      rw [List.replicate_succ, List.flatten_cons, List.append_assoc]
    rw [← e2, ← foldl_rep its k (acc ++ its), ← e, List.replicate_succ, List.foldl_cons]

section
variable {X : Cx} {pins : List (Addr × Obj)} {σ : St} {H : Hp} {s : Shared} {l b : Addr} {xs ys zs : List V}

/-! ### the two steps: a tracked list is rewritten, a new list is laid -/
theorem Inv.lset {its its' : List Value} {n : Nat} {f : Array Value → Array Value} {t' : Nat} (I : Inv X pins σ H s) (hH : H l = some (.lst xs))
    (e : s.heap.get? l = some { cls := .type "list", data := .seq its.toArray n }) (hf : f its.toArray = its'.toArray) (hv : Vals ys its') (hz : ys.length ≤ sizeLine) :
    Inv X pins σ (upd H l (.lst ys)) { s with heap := s.heap.update l (Obj.mapSeq f), toks := t' } := by
  have q := PySem.IsL.update e f
  rw [hf] at q
  refine I.write (x := l) (e := l) (by rw [hH]; exact trivial) (.inl rfl) (fun b' u hb hu => (Heap.get?_update_other s.heap (Obj.mapSeq f) (Ne.symm hb)).trans hu) ⟨_, q⟩ ?_
  exact ⟨hz, its', _, hv, q⟩
theorem Inv.lnew {its : List Value} {t' : Nat} (I : Inv X pins σ H s) (hv : Vals ys its) (hz : ys.length ≤ sizeLine) :
    Inv X pins σ (upd H s.heap.objs.size (.lst ys)) { s with heap := s.heap.push { cls := .type "list", data := .seq its.toArray }, toks := t' } :=
  I.laid (fun _ _ q => Heap.get?_push_of_some _ q) (Nat.le_refl _) ⟨hz, its, 0, hv, Heap.get?_push_size _ rfl⟩
theorem Inv.fresh (I : Inv X pins σ H s) : H s.heap.objs.size = none := I.hok.fresh (Nat.le_refl _)
theorem Inv.lstM (I : Inv X pins σ H s) (hH : H l = some (.lst xs)) : xs.length ≤ sizeLine ∧ ∃ (its : List Value) (n : Nat), Vals xs its ∧ xs.length = its.length ∧ s.heap.get? l = some { cls := .type "list", data := .seq its.toArray n } := by
  obtain ⟨z, its, n, r, e⟩ := I.hok l _ hH
  exact ⟨z, its, n, r, r.length, e⟩

theorem notLongL {n : Nat} (h : n ≤ sizeLine) : Builtin.List.listTooLong n = false := by
  unfold Builtin.List.listTooLong
  exact decide_eq_false (by omega)
end

section
variable {X : Cx}

/-! ### methods -/
def rAppend : V → List V → Hp → VK → Prop := fun x vs H Q => ∃ l xs y, x = .ref l ∧ vs = [y] ∧ H l = some (.lst xs) ∧ xs.length < sizeLine ∧ Q .non (upd H l (.lst (xs ++ [y])))
theorem mt_append : MtM X "list.append" rAppend := by
  intro pins s σ H x vs v us Q I rx rv h
  obtain ⟨l, xs, y, rfl, rfl, hH, hz, q⟩ := h
  cases rx
  obtain ⟨u, rfl, ru⟩ := rv.one
  obtain ⟨z, its, n, r, hl, e⟩ := I.lstM hH
  refine call_meets F.slot_list_append ⟨_, e, rfl⟩ F.entry_list_append (F.args_list_append_2 _ _) (PySem.list_append l its.toArray n u (by rw [List.size_toArray]; omega)) ⟨e, ?_⟩
  refine ⟨.non, _, I.lset (its' := its ++ [u]) hH e (by simp) (r.append (.cons ru .nil)) ?_, rfl, q⟩
  rw [List.length_append, List.length_singleton]
  omega

def rExtend : V → List V → Hp → VK → Prop := fun x vs H Q => ∃ l b xs zs, x = .ref l ∧ vs = [.ref b] ∧ H l = some (.lst xs) ∧ H b = some (.lst zs) ∧ xs.length + zs.length ≤ sizeLine ∧ Q .non (upd H l (.lst (xs ++ zs)))
theorem mt_extend : MtM X "list.extend" rExtend := by
  intro pins s σ H x vs v us Q I rx rv h
  obtain ⟨l, b, xs, zs, rfl, rfl, hH, hB, hz, q⟩ := h
  cases rx
  obtain ⟨u, rfl, ru⟩ := rv.one
  cases ru
  obtain ⟨z, its, n, r, hl, e⟩ := I.lstM hH
  obtain ⟨z2, its2, n2, r2, hl2, e2⟩ := I.lstM hB
  have hsz : its.toArray.size + its2.toArray.size ≤ sizeLine := by rw [List.size_toArray, List.size_toArray]; omega
  have hlong : ¬ (!its.toArray.isEmpty && Builtin.List.listTooLong (its.toArray.size + its2.toArray.size)) = true := by
    rw [notLongL hsz, Bool.and_false]
    exact Bool.false_ne_true
  refine call_meets F.slot_list_extend ⟨_, e, rfl⟩ F.entry_list_extend (F.args_list_extend_2 _ _)
    (AutoSeq1.list_extend_list_list_0 l its.toArray n b its2.toArray n2 hlong (by rw [List.size_toArray]; omega) (by omega)) ⟨e, e2, ?_⟩
  refine ⟨.non, _, I.lset (its' := its ++ its2) hH e (by simp) (r.append r2) ?_, rfl, q⟩
  rw [List.length_append]
  omega

def rPop : V → List V → Hp → VK → Prop := fun x vs H Q => ∃ l xs y, x = .ref l ∧ vs = [] ∧ H l = some (.lst xs) ∧ xs[xs.length - 1]? = some y ∧ Q y (upd H l (.lst xs.dropLast))
theorem mt_pop : MtM X "list.pop" rPop := by
  intro pins s σ H x vs v us Q I rx rv h
  obtain ⟨l, xs, y, rfl, rfl, hH, hy, q⟩ := h
  cases rx
  have hus := rv.zero
  subst hus
  obtain ⟨z, its, n, r, hl, e⟩ := I.lstM hH
  obtain ⟨u, hu, ru⟩ := r.get hy
  have hy' : its.toArray[its.toArray.size - 1]? = some u := by
    show its.toArray[its.length - 1]? = some u
    rw [← Array.getElem?_toList, ← hl]
    exact hu
  refine call_meets F.slot_list_pop ⟨_, e, rfl⟩ F.entry_list_pop (F.args_list_pop_1 _) (MeetsSeq.list_pop_last l its.toArray n u hy' (by rw [List.size_toArray]; omega)) ⟨e, ?_⟩
  refine ⟨y, _, I.lset (its' := its.dropLast) hH e ?_ r.dropLast ?_, ru, q⟩
  · show its.toArray.eraseIdxIfInBounds (its.toArray.size - 1) = its.dropLast.toArray
    rw [List.size_toArray, List.eraseIdxIfInBounds_toArray, erase_last]
  · rw [List.length_dropLast]
    omega

def rPopAt : V → List V → Hp → VK → Prop := fun x vs H Q => ∃ l xs i k y, x = .ref l ∧ vs = [.int i] ∧ H l = some (.lst xs) ∧ -(2 ^ 63) ≤ i ∧ i < 2 ^ 63 ∧ seqIndex? i xs.length = some k ∧ xs[k]? = some y ∧ Q y (upd H l (.lst (xs.eraseIdx k)))
theorem mt_popAt : MtM X "list.pop" rPopAt := by
  intro pins s σ H x vs v us Q I rx rv h
  obtain ⟨l, xs, i, k, y, rfl, rfl, hH, h1, h2, hk, hy, q⟩ := h
  cases rx
  obtain ⟨u, rfl, ru⟩ := rv.one
  obtain ⟨t, rfl⟩ := ru
  obtain ⟨z, its, n, r, hl, e⟩ := I.lstM hH
  obtain ⟨w, hw, rw'⟩ := r.get hy
  refine call_meets F.slot_list_pop ⟨_, e, rfl⟩ F.entry_list_pop (F.args_list_pop_2 _ _)
    (MeetsSeq.list_pop_at l its.toArray n i t k w (fitsIndex_both h1 h2) (by rw [List.size_toArray, ← hl]; exact hk) (by rw [← Array.getElem?_toList]; exact hw) (by rw [List.size_toArray]; omega)) ⟨e, ?_⟩
  refine ⟨y, _, I.lset (its' := its.eraseIdx k) hH e ?_ (r.eraseIdx k) ?_, rw', q⟩
  · show its.toArray.eraseIdxIfInBounds k = (its.eraseIdx k).toArray
    rw [List.eraseIdxIfInBounds_toArray]
  · have := len_erase xs k
    omega

def rReverse : V → List V → Hp → VK → Prop := fun x vs H Q => ∃ l xs, x = .ref l ∧ vs = [] ∧ H l = some (.lst xs) ∧ Q .non (upd H l (.lst xs.reverse))
theorem mt_reverse : MtM X "list.reverse" rReverse := by
  intro pins s σ H x vs v us Q I rx rv h
  obtain ⟨l, xs, rfl, rfl, hH, q⟩ := h
  cases rx
  have hus := rv.zero
  subst hus
  obtain ⟨z, its, n, r, hl, e⟩ := I.lstM hH
  refine call_meets F.slot_list_reverse ⟨_, e, rfl⟩ F.entry_list_reverse (F.args_list_reverse_1 _) (AutoSeq1.list_reverse_list_0 l its.toArray n (by rw [List.size_toArray]; omega)) ⟨e, ?_⟩
  refine ⟨.non, _, I.lset (its' := its.reverse) hH e (by simp) r.reverse ?_, rfl, q⟩
  rw [List.length_reverse]
  omega

def rClear : V → List V → Hp → VK → Prop := fun x vs H Q => ∃ l xs, x = .ref l ∧ vs = [] ∧ H l = some (.lst xs) ∧ Q .non (upd H l (.lst []))
theorem mt_clear : MtM X "list.clear" rClear := by
  intro pins s σ H x vs v us Q I rx rv h
  obtain ⟨l, xs, rfl, rfl, hH, q⟩ := h
  cases rx
  have hus := rv.zero
  subst hus
  obtain ⟨z, its, n, r, hl, e⟩ := I.lstM hH
  refine call_meets F.slot_list_clear ⟨_, e, rfl⟩ F.entry_list_clear (F.args_list_clear_1 _) (AutoSeq1.list_clear_list_0 l its.toArray n (by rw [List.size_toArray]; omega)) ⟨e, ?_⟩
  exact ⟨.non, _, I.lset (its' := []) (ys := []) hH e rfl .nil (Nat.zero_le _), rfl, q⟩

/-! ### list + list, list += list, list * int -/
def rCat : R2 := fun x y H Q => ∃ l b xs zs, x = .ref l ∧ y = .ref b ∧ H l = some (.lst xs) ∧ H b = some (.lst zs) ∧ xs.length + zs.length ≤ sizeLine ∧ ∀ p, H p = none → Q (.ref p) (upd H p (.lst (xs ++ zs)))
theorem op_cat : OpR X (binaryOp .Add) rCat := by
  intro pins s σ H x y v u Q I rx ry h
  obtain ⟨l, b, xs, zs, rfl, rfl, hH, hB, hz, q⟩ := h
  cases rx
  cases ry
  obtain ⟨z, its, n, r, hl, e⟩ := I.lstM hH
  obtain ⟨z2, its2, n2, r2, hl2, e2⟩ := I.lstM hB
  refine PySem.P.add_list e e2 ?_ (by rw [List.size_toArray, List.size_toArray]; omega)
  have ea : its.toArray ++ its2.toArray = (its ++ its2).toArray := by simp
  rw [ea]
  exact ⟨.ref _, _, I.lnew (t' := s.toks) (r.append r2) (by rw [List.length_append]; omega), rfl, q _ I.fresh⟩
/-- a list times an int (a negative one is nothing) -/
def rRep : R2 := fun x y H Q => ∃ l k xs, x = .ref l ∧ y = .int k ∧ H l = some (.lst xs) ∧ -(2 ^ 63) ≤ k ∧ k < 2 ^ 63 ∧ xs.length * k.toNat ≤ sizeLine ∧
  ∀ p, H p = none → Q (.ref p) (upd H p (.lst (List.replicate k.toNat xs).flatten))
theorem len_rep {α : Type} (xs : List α) (k : Nat) : (List.replicate k xs).flatten.length = k * xs.length := by
  induction k with
  | zero => simp
  | succ k ih => rw [List.replicate_succ, List.flatten_cons, List.length_append, ih, Nat.succ_mul, Nat.add_comm]
theorem op_rep : OpR X (binaryOp .Mult) rRep := by
  intro pins s σ H x y v u Q I rx ry h
  obtain ⟨l, k, xs, rfl, rfl, hH, h1, h2, hz, q⟩ := h
  cases rx
  obtain ⟨t, rfl⟩ := ry
  obtain ⟨z, its, n, r, hl, e⟩ := I.lstM hH
  have hlen : its.toArray.size * k.toNat ≤ sizeLine := by rw [List.size_toArray, ← hl]; exact hz
  have hcap : ¬ its.toArray.size * k.toNat > (2 ^ 63 - 1) / 8 := by
    have : (sizeLine : Nat) ≤ (2 ^ 63 - 1) / 8 := by decide
    omega
  have hfit : ¬ (!Builtin.List.listFitsIndex k) = true := by
    rw [fitsIndex_both h1 h2]
    exact Bool.false_ne_true
  have hlong : ¬ Builtin.List.listTooLong (its.toArray.size * k.toNat) = true := by
    rw [notLongL hlen]
    exact Bool.false_ne_true
  have hnew : List.foldl (fun x1 x2 => x1 ++ x2) #[] (List.replicate (if its.toArray.isEmpty = true then 0 else k.toNat) its.toArray) = (List.replicate k.toNat its).flatten.toArray := by
    have f0 : ∀ m : Nat, List.foldl (fun x1 x2 => x1 ++ x2) #[] (List.replicate m its.toArray) = (List.replicate m its).flatten.toArray := fun m => by
      have := foldl_rep its m []
      rw [List.nil_append] at this
      exact this
    rw [f0]
    cases its with
    | nil => simp
    | cons a r' => rw [if_neg (by simp)]
  refine wpAny_binaryOp_repeat_ref (T := "list") (U := "int") (by decide) ⟨_, e, rfl⟩ (fun s' => typeIs_int s' k t) noFill_list_mul F.fills_int_mul F.slot_int_rmul repeat_list F.slot_int_index.lookup
    (call_meets F.slot_int_rmul (typeIs_int s k t) F.entry_int_rmul (F.args_int_rmul_2 _ _) (int___rmul___int_list k t l its.toArray n)
      ⟨e, rfl, ⟨_, e, rfl⟩, call_meets F.slot_list_mul ⟨_, e, rfl⟩ F.entry_list_mul (F.args_list_mul_2 _ _) (AutoListH.list___mul___list_int_3 l its.toArray n k t hfit hcap hlong) ⟨e, ?_⟩⟩)
  rw [hnew]
  exact ⟨.ref _, _, I.lnew (t' := s.toks) (r.rep k.toNat) (by rw [len_rep, Nat.mul_comm]; exact hz), rfl, q _ I.fresh⟩

/-! ### del xs[i] -/
theorem del_list {pins : List (Addr × Obj)} {s : Shared} {σ : St} {H : Hp} {l : Addr} {xs : List V} {i : Int} {t : Tok} {k : Nat} {Q : Unit → Shared → Prop} (I : Inv X pins σ H s) (hH : H l = some (.lst xs))
    (h1 : -(2 ^ 63) ≤ i) (h2 : i < 2 ^ 63) (hk : seqIndex? i xs.length = some k) (h : ∀ s', Inv X pins σ (upd H l (.lst (xs.eraseIdx k))) s' → Q () s') :
    wpAny (model X.prog X.w) X.A (delItem (.ref l) (.int i t)) Q X.xe s := by
  obtain ⟨z, its, n, r, hl, e⟩ := I.lstM hH
  refine PySem.P.delItem_list (k := k) e (fitsIndex_both h1 h2) (by rw [List.size_toArray, ← hl]; exact hk) (h _ ?_) (by rw [List.size_toArray]; omega)
  refine I.lset (its' := its.eraseIdx k) (t' := s.toks) hH e ?_ (r.eraseIdx k) ?_
  · show its.toArray.eraseIdxIfInBounds k = (its.eraseIdx k).toArray
    rw [List.eraseIdxIfInBounds_toArray]
  · have := len_erase xs k
    omega
end

/-! ### xs[a:b] = ys -/
section
variable {prog : Program} {w : World} {A : Around} {E : Value → Shared → Prop} {s : Shared}
theorem splice_eq (its its2 : List Value) (a c : Nat) : its.toArray.extract 0 a ++ its2.toArray ++ its.toArray.extract c its.toArray.size = (its.take a ++ its2 ++ its.drop c).toArray := by
  apply Array.toList_inj.mp
  first
    | (simp
       exact List.take_of_length_le (by simp))
    | simp [List.take_of_length_le]
    | simp
theorem bounds_run {a c n : Nat} (hac : a ≤ c) (hc : c ≤ n) : sliceBounds (some (a : Int)) (some (c : Int)) none n = ((a : Int), (c : Int), 1) := by
  simp only [sliceBounds, Option.getD_none]
  have h1 : ¬ ((a : Int) < 0) := by omega
  have h2 : ¬ ((c : Int) < 0) := by omega
  simp only [h1, h2, if_false, show (1 : Int) > 0 by decide, if_true]
  congr 1
  · omega
  · congr 1; omega
set_option maxRecDepth 100000 in
/-- list.__setitem__ with a slice of step one and another list -/
theorem setItem_slice {l b sl : Addr} {items new : Array Value} {n n2 : Nat} {vl vu : Value} {a c : Nat} {Q : Unit → Shared → Prop}
    (e : s.heap.get? l = some { cls := .type "list", data := .seq items n }) (e2 : s.heap.get? b = some { cls := .type "list", data := .seq new n2 }) (hne : l ≠ b)
    (hs : s.heap.IsSliceOf sl vl vu .none) (pl : IsPart vl (some (a : Int))) (pu : IsPart vu (some (c : Int))) (hac : a ≤ c) (hc : c ≤ items.size)
    (hsz : items.size + new.size ≤ sizeLine) (h : Q () { s with heap := s.heap.update l (Obj.mapSeq fun xs => xs.extract 0 a ++ new ++ xs.extract c xs.size) }) :
    wpAny (model prog w) A (setItem (.ref l) (.ref sl) (.ref b)) Q E s := by
  have hl : s.heap.IsList l items := PySem.IsL.isList e
  have hb : s.heap.IsList b new := PySem.IsL.isList e2
  obtain ⟨os, hos, hcs, hds⟩ := id hs
  have hTs : s.TypeIs (.ref sl) "slice" := ⟨os, hos, hcs⟩
  have hstep : ¬ ((rawPart none == rawInt 0) = true) := Bool.false_ne_true
  have hsame : Builtin.List.listSameRef (.ref l) (.ref b) = false := by
    unfold Builtin.List.listSameRef
    exact beq_eq_false_iff_ne.mpr hne
  have hmax : (max (a : Int) (c : Int)).toNat = c := by omega
  have hz' : ((fun xs : Array Value => xs.extract 0 a ++ new ++ xs.extract c xs.size) items).size ≤ sizeLine + 1 := by
    simp only [Array.size_append, Array.size_extract]
    omega
  unfold setItem
  try with_reducible refine wpAny_holding ?_
  first | refine wpAny_bind (wpAny_pure ?_) | skip
  refine wpAny_bind (wpAny_sequenceKey hl.typeIs (by decide) ?_)
  refine wpAny_bind (wpAny_callSpecial?_slot (name := Str.ofString "__setitem__") hl.typeIs slot_list_setitem
    (wpAny_call_entry slot_list_setitem hl.typeIs entry_list_setitem ?_ (args_list_setitem _ _ _)))
  show wpAny _ _ (Builtin.List.listSubscript? (.ref sl) >>= _) _ _ s
  refine wpAny_bind ?_
  unfold Builtin.List.listSubscript?
  refine wpAny_bind (wpAny_specialOf hTs slice_no_index ?_)
  simp only [Option.isNone_none, if_true]
  refine wpAny_pure ?_
  show wpAny _ _ (typeOf (.ref sl) >>= _) _ _ s
  refine wpAny_bind (wpAny_typeOf hTs ?_)
  first
    | rw [if_neg (by decide)]
    | refine PySem.W.KFB.if_not (by decide) ?_
  rw [listSliceParts_eq]
  refine wpAny_bind (wpAny_bind (wpAny_field hos hds (x := .none) rfl (wpAny_bind (wpAny_listPart .none ?_))))
  rw [if_neg hstep]
  refine wpAny_bind (wpAny_field hos hds (x := vl) rfl (wpAny_bind (wpAny_listPart pl ?_)))
  refine wpAny_bind (wpAny_field hos hds (x := vu) rfl (wpAny_bind (wpAny_listPart pu (wpAny_pure ?_))))
  first
    | simp only [hsame, Bool.false_eq_true, if_false]
    | refine PySem.W.KFB.if_not hsame ?_
    | (dsimp only
       rw [if_neg (by rw [hsame]; exact Bool.false_ne_true)])
  refine wpAny_bind (m := Builtin.List.listAllItems (.ref b) "must assign iterable to extended slice") ?_
  unfold Builtin.List.listAllItems
  refine wpAny_bind (wpAny_typeOf hb.typeIs ?_)
  first
    | refine PySem.W.KFB.if_so (by decide) ?_
    | rw [if_pos (by decide)]
    | simp only [beq_self_eq_true, Bool.true_or, if_true]
  unfold Builtin.List.listItems
  refine wpAny_bind (wpAny_seqItems e2 rfl (wpAny_pure ?_))
  refine wpAny_bind (wpAny_bind (wpAny_seqItems e rfl (wpAny_pure ?_)))
  refine wpAny_bind (wpAny_of_eq ((sliceIndices_raw (some (a : Int)) (some (c : Int)) none items.size (by simp)).trans (congrArg (pure : Int × Int × Int → Sem (Int × Int × Int)) (bounds_run hac hc))) ?_)
  show wpAny _ _ (if ((1 : Int) == 1) = true then _ else _) _ _ s
  rw [if_pos (by decide)]
  refine wpAny_bind (wpAny_rule ?_)
  first
    | simp only [notLongL hsz, Bool.false_eq_true, if_false]
    | refine PySem.W.KFB.if_not (notLongL hsz) ?_
  first | refine wpAny_bind (wpAny_pure ?_) | skip
  show wpAny _ _ (updateSeq l (fun xs => xs.extract 0 ((a : Int)).toNat ++ new ++ xs.extract (max (a : Int) (c : Int)).toNat xs.size) >>= _) _ _ s
  rw [hmax, Int.toNat_natCast]
  refine wpAny_bind (wpAny_updateSeq (hz := Nat.le_trans (Nat.le_add_right _ _) hsz) (_hz' := hz') e rfl ?_)
  refine wpAny_bind (wpAny_letGo ?_)
  first
    | exact wpAny_bind (wpAny_pure (wpAny_pure ⟨.none, rfl, wpAny_pure h⟩))
    | exact wpAny_pure ⟨.none, rfl, wpAny_pure h⟩
end

section
variable {X : Cx}
/-- xs[a:c] = ys of another list, at the value level: sl is the slice object that was just made -/
theorem set_slice {pins : List (Addr × Obj)} {s : Shared} {σ : St} {H : Hp} {l b sl : Addr} {xs ys : List V} {a c : Int} {vl vu : Value} {Q : Unit → Shared → Prop} (I : Inv X pins σ H s)
    (hH : H l = some (.lst xs)) (hB : H b = some (.lst ys)) (hne : l ≠ b) (hs : s.heap.IsSliceOf sl vl vu .none) (ra : RelV (.int a) vl) (rc : RelV (.int c) vu) (h0 : 0 ≤ a) (hac : a ≤ c) (hc : c ≤ xs.length)
    (hz : xs.length + ys.length ≤ sizeLine) (h : ∀ s', Inv X pins σ (upd H l (.lst (xs.take a.toNat ++ ys ++ xs.drop c.toNat))) s' → Q () s') :
    wpAny (model X.prog X.w) X.A (setItem (.ref l) (.ref sl) (.ref b)) Q X.xe s := by
  obtain ⟨ta, rfl⟩ := ra
  obtain ⟨tc, rfl⟩ := rc
  obtain ⟨z, its, n, r, hl, e⟩ := I.lstM hH
  obtain ⟨z2, its2, n2, r2, hl2, e2⟩ := I.lstM hB
  obtain ⟨a', rfl⟩ := Int.eq_ofNat_of_zero_le h0
  obtain ⟨c', rfl⟩ := Int.eq_ofNat_of_zero_le (Int.le_trans h0 hac)
  simp only [Int.toNat_natCast] at h
  refine setItem_slice (a := a') (c := c') e e2 hne hs (.int _ _) (.int _ _) (by omega) (by rw [List.size_toArray]; omega) (by rw [List.size_toArray, List.size_toArray]; omega) (h _ ?_)
  refine I.lset (its' := its.take a' ++ its2 ++ its.drop c') (t' := s.toks) hH e ?_ (Vals.append (Vals.append (r.take _) r2) (r.drop _)) ?_
  · exact splice_eq its its2 a' c'
  · rw [List.length_append, List.length_append, List.length_take, List.length_drop]
    omega
end
end L2

namespace Att
open PySem PySem.W PySem.Calls PyProof.Rows

/-! ### the script -/
theorem ints_of_wellAll {P : Params} {h : Heap} : ∀ (ns : List Int) (vs : List Value), WellAll P h vs (ns.map WData.int) → IntsAre vs ns := by
  intro ns
  induction ns with
  | nil =>
    intro vs w
    rw [List.map_nil] at w
    cases w
    exact .nil
  | cons n ns ih =>
    intro vs w
    rw [List.map_cons] at w
    cases w with
    | cons a b =>
      cases a
      exact .cons _ _ (ih _ b)

theorem script_of {l : OpenLaw} {n : Nat} (hn : l.most = some n) {P : Params} {h : Heap} {args : List WData} {vals : List Value}
    (hpre : l.row.toRowW.claim.pre args = true) (hwl : WellAll P h vals args) :
    ∃ a vs ns, vals = [Value.ref a] ∧ args = [WData.list (ns.map WData.int)] ∧ h.get? a = some { cls := .type "list", data := .seq vs.toArray } ∧ IntsAre vs ns ∧ ns.length ≤ n := by
  have hsh : WShape.hasAll [] args [.list .int] = true := (pre_splitW hpre).1
  have hc : l.pre.holds [] { args := args } = true := (pre_splitW hpre).2
  obtain ⟨d, r, rfl, h1, h2⟩ := hasAllW_cons hsh
  obtain rfl := hasAllW_nil h2
  obtain ⟨xs, rfl, h3⟩ := hasW_list h1
  obtain ⟨ns, rfl⟩ := items_int h3
  have hlen : ns.length ≤ n := by
    unfold OpenLaw.pre at hc
    have h4 : (WTm.not (.lt (.lit (.int (n : Int))) (.len (.arg 0)))).holds [] { args := [.list (ns.map .int)] } = true := by
      have h4 := (holds_andW hc).1
      rw [hn] at h4
      exact h4
    have h5 := condW_of h4 (w_not (w_lt w_lit (w_len_list (w_arg rfl))))
    rw [List.length_map] at h5
    refine Nat.le_of_not_lt fun q => ?_
    have q' : (n : Int) < ((ns.length : Nat) : Int) := by omega
    first
      | (rw [decide_eq_true q'] at h5; exact absurd h5 (by decide))
      | (simp at h5; omega)
  cases hwl with
  | cons w1 w2 =>
    cases w2
    cases w1 with
    | list ho hall => exact ⟨_, _, ns, rfl, rfl, ho, ints_of_wellAll ns _ hall, hlen⟩

theorem post_true (l : OpenLaw) (args : List WData) : l.row.toRowW.claim.post args (.bool true) args = true :=
  postW_of (r := l.row.toRowW) (X := (true == true))
    (show WShape.has [] (.bool true) .bool = true by first | rfl | decide | simp [WShape.has, WShape.arms, WShape.armsAll])
    (show (WTm.eq .res (.lit (.bool true))).value [] { args := args, res := some (.bool true), after := args } = some (.bool (true == true)) from w_eq_bool (w_res rfl) w_lit) rfl

/-! ### the attachment: holds_open's last premise (the goal 'hc' behind k_head) from a wpAny of the law's body -/
theorem attach {l : OpenLaw} {n : Nat} {q : Program} {loose : List Str} {XP : (Str → Option Value) → Heap → Prop} {YP : World → Heap → Prop} {d : DefRec} {x : Str}
    (hn : l.most = some n) (hdf : d.params.defaults = [])
    (hbind : ∀ pm cd doc v : Value, bindArgs (docDef d.name d.params d.body d.scope pm cd doc) ⟨[v], []⟩ = pure [(x, v)])
    (hx : d.scope.names.lookup x = some .local ∨ d.scope.names.lookup x = some .cell)
    (hk : d.scope.kind = .function) (hco : d.scope.isCoroutine = false) (hgen : d.scope.isGenerator = false)
    (body : ∀ (w : World) (s₀ s₁ s : Shared) (mg mb : Str → Option Value) (fa : Addr) (o : Obj) (pm cd doc : Value) (a : Addr) (vs : List Value) (ns : List Int),
      Ground q loose [] XP w s₀ mg mb s₁.heap → YP w s₁.heap →
      s₁.heap.get? fa = some o → o.data = .func (docDef d.name d.params d.body d.scope pm cd doc) → s₁.heap.CodeRec cd d.name → mg d.name = some (.ref fa) →
      s₁.heap.get? a = some { cls := .type "list", data := .seq vs.toArray } → IntsAre vs ns → ns.length ≤ n →
      s.gens = #[] → s.os = s₁.os →
      Fr s₁.heap s₁.heap.objs.size s.heap (bindL (envOfC d.name d.scope s₁.heap.objs.size fa cd).kindOf [(x, .ref a)] fun _ => none) →
      Cl s₁.heap.objs.size (cellsFrom (s₁.heap.objs.size + 1) d.scope.names []) s.heap (bindC (envOfC d.name d.scope s₁.heap.objs.size fa cd).kindOf [(x, .ref a)] fun _ => none) →
      wpAny (model l.prog w) (callerA.deeper (envOfC d.name d.scope s₁.heap.objs.size fa cd)) (execs d.body (envOfC d.name d.scope s₁.heap.objs.size fa cd))
        (fun f s' => f = .ret (.bool true) ∧ OldK s₁.heap s'.heap ∧ s'.os = s₁.os ∧ AllBare s'.gens) (fun _ _ => False) s) :
    WalkO q loose XP YP l.row.toRowW d [] (fun f vs => PySem.call f vs) := by
  intro w s₀ s₁ mg mb G Y fa o pm cd doc dV kV ho hd hcd hD hmg hg args vals as hpre hlay hrd hwl hlo
  obtain rfl : dV = .none := Dflts.none hD hdf
  obtain rfl : kV = .none := Dflts.noKw hD
  obtain ⟨a, vs, ns, rfl, rfl, hobj, hints, hlen⟩ := script_of hn hpre hwl
  refine enter_call ?_
  refine call_cells_ret (o := o) (by rw [depth_caller]; decide) ho (fd_plain hd) G.T.nolimit hcd (hbind pm cd doc (.ref a)) (fun y hy => ?_) (fun h₁ tk F X => ?_) hco hgen hk
  · obtain rfl : y = (x, Value.ref a) := List.mem_singleton.mp hy
    rcases hx with e | e
    · exact .inl e
    · exact .inr ⟨e, cellsFrom_some _ _ _ (.inl e)⟩
  · refine wpAny_mono (body w s₀ s₁ { s₁ with heap := h₁, toks := tk } mg mb fa o pm cd doc a vs ns G Y ho (fd_plain hd) hcd hmg hobj hints hlen hg rfl F X) (fun f s' hq => ?_) (fun _ _ hq => hq)
    obtain ⟨rfl, h2, h3, h4⟩ := hq
    exact ⟨.inl ⟨.bool true, .bool true, [], rfl, fun _ => rfl, .bool true, post_true l _, fun _ => ⟨List.Pairwise.nil, fun _ hm => (nomatch hm)⟩⟩, h2, h3, h4⟩

/-- the same from a codeAny of the CALL (for a layer whose function contracts speak of calls) -/
theorem attach_call {l : OpenLaw} {n : Nat} {q : Program} {loose : List Str} {XP : (Str → Option Value) → Heap → Prop} {YP : World → Heap → Prop} {d : DefRec}
    (hn : l.most = some n) (hdf : d.params.defaults = [])
    (call : ∀ (w : World) (s₀ s₁ : Shared) (mg mb : Str → Option Value) (fa : Addr) (o : Obj) (pm cd doc : Value) (a : Addr) (vs : List Value) (ns : List Int),
      Ground q loose [] XP w s₀ mg mb s₁.heap → YP w s₁.heap →
      s₁.heap.get? fa = some o → o.data = .func (docDef d.name d.params d.body d.scope pm cd doc) → s₁.heap.CodeRec cd d.name → mg d.name = some (.ref fa) →
      s₁.heap.get? a = some { cls := .type "list", data := .seq vs.toArray } → IntsAre vs ns → ns.length ≤ n → s₁.gens = #[] →
      codeAny (model l.prog w) callerA (.call (.ref fa) ⟨[.ref a], []⟩) (fun r s' => r = .ok (.ret (.bool true)) ∧ OldK s₁.heap s'.heap ∧ s'.os = s₁.os ∧ AllBare s'.gens) s₁) :
    WalkO q loose XP YP l.row.toRowW d [] (fun f vs => PySem.call f vs) := by
  intro w s₀ s₁ mg mb G Y fa o pm cd doc dV kV ho hd hcd hD hmg hg args vals as hpre hlay hrd hwl hlo
  obtain rfl : dV = .none := Dflts.none hD hdf
  obtain rfl : kV = .none := Dflts.noKw hD
  obtain ⟨a, vs, ns, rfl, rfl, hobj, hints, hlen⟩ := script_of hn hpre hwl
  refine enter_call (codeAny_mono (call w s₀ s₁ mg mb fa o pm cd doc a vs ns G Y ho (fd_plain hd) hcd hmg hobj hints hlen hg) fun r s' hq => ?_)
  obtain ⟨rfl, h2, h3, h4⟩ := hq
  exact ⟨.inl ⟨.bool true, .bool true, [], rfl, fun _ => rfl, .bool true, post_true l _, fun _ => ⟨List.Pairwise.nil, fun _ hm => (nomatch hm)⟩⟩, h2, h3, h4⟩

/-- the same where the top left finished generators (o_head chose holds_openN): nothing may have changed at all and no generator may be left -/
theorem attachN {l : OpenLaw} {n : Nat} {q : Program} {loose : List Str} {XP : (Str → Option Value) → Heap → Prop} {YP : World → Heap → Prop} {d : DefRec} {x : Str}
    (hn : l.most = some n) (hdf : d.params.defaults = [])
    (hbind : ∀ pm cd doc v : Value, bindArgs (docDef d.name d.params d.body d.scope pm cd doc) ⟨[v], []⟩ = pure [(x, v)])
    (hx : d.scope.names.lookup x = some .local ∨ d.scope.names.lookup x = some .cell)
    (hk : d.scope.kind = .function) (hco : d.scope.isCoroutine = false) (hgen : d.scope.isGenerator = false)
    (body : ∀ (w : World) (s₀ s₁ s : Shared) (mg mb : Str → Option Value) (fa : Addr) (o : Obj) (pm cd doc : Value) (a : Addr) (vs : List Value) (ns : List Int),
      Ground q loose [] XP w s₀ mg mb s₁.heap → YP w s₁.heap →
      s₁.heap.get? fa = some o → o.data = .func (docDef d.name d.params d.body d.scope pm cd doc) → s₁.heap.CodeRec cd d.name → mg d.name = some (.ref fa) →
      s₁.heap.get? a = some { cls := .type "list", data := .seq vs.toArray } → IntsAre vs ns → ns.length ≤ n →
      s.gens = #[] → s.os = s₁.os →
      Fr s₁.heap s₁.heap.objs.size s.heap (bindL (envOfC d.name d.scope s₁.heap.objs.size fa cd).kindOf [(x, .ref a)] fun _ => none) →
      Cl s₁.heap.objs.size (cellsFrom (s₁.heap.objs.size + 1) d.scope.names []) s.heap (bindC (envOfC d.name d.scope s₁.heap.objs.size fa cd).kindOf [(x, .ref a)] fun _ => none) →
      wpAny (model l.prog w) (callerA.deeper (envOfC d.name d.scope s₁.heap.objs.size fa cd)) (execs d.body (envOfC d.name d.scope s₁.heap.objs.size fa cd))
        (fun f s' => f = .ret (.bool true) ∧ (∀ b o, s₁.heap.get? b = some o → s'.heap.get? b = some o) ∧ s'.os = s₁.os ∧ s'.gens = #[]) (fun _ _ => False) s) :
    WalkN q loose XP YP l.row.toRowW d [] (fun f vs => PySem.call f vs) := by
  intro w s₀ s₁ mg mb G Y fa o pm cd doc dV kV ho hd hcd hD hmg hg args vals as hpre hlay hrd hwl hlo
  obtain rfl : dV = .none := Dflts.none hD hdf
  obtain rfl : kV = .none := Dflts.noKw hD
  obtain ⟨a, vs, ns, rfl, rfl, hobj, hints, hlen⟩ := script_of hn hpre hwl
  refine enter_callW ?_
  refine call_cells_ret (o := o) (by rw [depth_caller]; decide) ho (fd_plain hd) G.T.nolimit hcd (hbind pm cd doc (.ref a)) (fun y hy => ?_) (fun h₁ tk F X => ?_) hco hgen hk
  · obtain rfl : y = (x, Value.ref a) := List.mem_singleton.mp hy
    rcases hx with e | e
    · exact .inl e
    · exact .inr ⟨e, cellsFrom_some _ _ _ (.inl e)⟩
  · refine wpAny_mono (body w s₀ s₁ { s₁ with heap := h₁, toks := tk } mg mb fa o pm cd doc a vs ns G Y ho (fd_plain hd) hcd hmg hobj hints hlen hg rfl F X) (fun f s' hq => ?_) (fun _ _ hq => hq)
    obtain ⟨rfl, h2, h3, h4⟩ := hq
    exact ⟨.inl ⟨.bool true, .bool true, [], rfl, fun _ => rfl, .bool true, post_true l _, fun _ => ⟨List.Pairwise.nil, fun _ hm => (nomatch hm)⟩⟩, h2, h3, h4⟩

/-! ### rules over ANY heap (no ledger) from facts about the written part K: the library's own take a ledger (News) for what they write -/
section
variable {prog : Program} {w : World} {A : Around} {E : Value → Shared → Prop} {s : Shared} {K : Frag}

/-- a def of the module, or a method (qual 'C.m'), entered: the frame is the next address; cells behind it -/
theorem call_fn {R : Result → Shared → Prop} {name qual : Str} {params : Arguments} {body : List Stmt} {scope : Scope} {dV kV doc pm cdv ct oc : Value} {an od : Option Addr} {osl : Array (Option Value)} {f : Addr} {args : Args} {binds : List (Str × Value)}
    (X : K.In s.heap) (hlim : s.heap.NoLimit) (ho : K.lookup f = some ⟨oc, od, .func (fnOf name qual params body scope dV kV doc pm an cdv ct), osl⟩) (hcd : codeIn K cdv qual = true) (hroom : A.depth < recursionLimit)
    (hbind : BindsTo s (fnOf name qual params body scope dV kV doc pm an cdv ct) args binds)
    (hkind : (binds.all fun y => scope.names.lookup y.1 == some .local || scope.names.lookup y.1 == some .cell) = true)
    (h : ∀ s₁, InCallC s s.heap.objs.size (bindL (envOfC qual scope s.heap.objs.size f cdv).kindOf binds fun _ => none) (cellsFrom (s.heap.objs.size + 1) scope.names [])
        (bindC (envOfC qual scope s.heap.objs.size f cdv).kindOf binds fun _ => none) s₁ →
      wpAny (model prog w) (A.deeper (envOfC qual scope s.heap.objs.size f cdv)) (execs body (envOfC qual scope s.heap.objs.size f cdv))
        (fun fl s' => R (.ok (.ret (match fl with | .ret v => v | _ => .none))) s')
        (fun e s' => wpAny (model prog w) (A.deeper (envOfC qual scope s.heap.objs.size f cdv)) (leaving (envOfC qual scope s.heap.objs.size f cdv) e) (fun _ s'' => R (.error e) s'') (fun e' s'' => R (.error e') s'') s') s₁)
    (hco : scope.isCoroutine = false) (hgen : scope.isGenerator = false) (hk : scope.kind = .function) : codeAny (model prog w) A (.call (.ref f) args) R s := by
  refine codeAny_call_function hroom (X _ _ ho) rfl hco hgen rfl (codeRec_of X hcd) (hbind _ _ _ _ ?_)
  refine wpAny_newFunctionEnv_cells hk (kindsX hkind _) fun env he s₁ x => ?_
  subst he
  exact ⟨hlim.keeps x.toInCall.keep, codeAny_func (h s₁ x)⟩

/-- C(..): dict at size, instance at size + 1, then __init__ -/
theorem make_obj {R : Result → Shared → Prop} {C fI : Addr} {rest : List Value} {kw : List (Str × Value)}
    (X : K.In s.heap) (hm : makesIn K C = true) (hi : findIn K (.ref C) "__init__" = some (some (.ref fI))) (hf : isFn K (.ref fI) = true)
    (h : codeAny (model prog w) (A.under (.builtin "type.__call__" ⟨.ref C :: rest, kw⟩)) (.call (.ref fI) ⟨.ref (s.heap.objs.size + 1) :: rest, kw⟩) (InitBack (s.heap.objs.size + 1) R)
      { s with heap := (s.heap.push emptyDict).push (instObj C s.heap.objs.size) }) : codeAny (model prog w) A (.call (.ref C) ⟨rest, kw⟩) R s := by
  obtain ⟨hh, g, d, t, os⟩ := s
  exact make_core (makes_of X hm) (looks_findIn X hi) (fun self => bind_fn X self (beq_iff_eq.mp hf)) (.inl rfl) h

/-- x.name where the instance's dict holds the name and the class does not -/
theorem get_field {x C : Addr} {ox : Obj} {es : List DictEntry} {n : Nat} {name : Str} {expr : Bool} {v : Value} {Q : Value → Shared → Prop}
    (X : K.In s.heap) (I : PySem.W.InstAt s.heap x ox C (some (dictOf es n))) (hg : plainGet K C name = true) (hh : hasDictIn K C = true) (ha : findIn K (.ref C) name = some none)
    (hl : getL name es = some (some v)) (hv : handedIn v = true) (h : Q v { s with toks := s.toks + 1 }) : wpAny (model prog w) A (getAttr (.ref x) name expr) Q E s :=
  get_value X I (plainGet_of hg).1 (findObj_own hh ha rfl hl) hv h

/-- x.m(..): the method found in the class -/
theorem get_method {x C f : Addr} {ox : Obj} {es : List DictEntry} {n : Nat} {name : Str} {pl : Sem Bool} {Q : Value × List Value → Shared → Prop}
    (X : K.In s.heap) (I : PySem.W.InstAt s.heap x ox C (some (dictOf es n))) (hg : plainGet K C name = true) (hf : findIn K (.ref C) name = some (some (.ref f))) (ht : isFn K (.ref f) = true)
    (hl : getL name es = some none) (h : Q (.ref f, [.ref x]) s) : wpAny (model prog w) A (getMethod (.ref x) name pl) Q E s :=
  method_fn X I (plainGet_of hg).1 (plainGet_of hg).2 hf (beq_iff_eq.mp ht) (by show (lookIn name (dictOf es n)).map _ = _; rw [lookIn_dict, hl]; rfl) h

/-! the whole heap as the ledger: makes every rule that writes through a ledger a rule over any heap -/
def noObjs (h : Heap) : Heap := { h with objs := #[] }
theorem noObjs_get (h : Heap) (b : Addr) : (noObjs h).get? b = none := by
  cases e : (noObjs h).get? b with
  | none => rfl
  | some o => exact absurd (Heap.lt_size e) (Nat.not_lt_zero _)
def ledger (h : Heap) (L d : Addr) : List (Addr × Obj) := (List.range h.objs.size).filterMap fun a => if a = L ∨ a = d then none else (h.get? a).map fun o => (a, o)
theorem mem_ledger {h : Heap} {L d a : Addr} {o : Obj} : (a, o) ∈ ledger h L d ↔ a ≠ L ∧ a ≠ d ∧ h.get? a = some o := by
  unfold ledger
  rw [List.mem_filterMap]
  constructor
  · rintro ⟨b, _, e⟩
    split at e
    · cases e
    · rename_i hb
      obtain ⟨o', ho, e'⟩ := Option.map_eq_some_iff.mp e
      cases e'
      exact ⟨fun q => hb (.inl q), fun q => hb (.inr q), ho⟩
  · rintro ⟨n1, n2, ho⟩
    refine ⟨a, List.mem_range.mpr (Heap.lt_size ho), ?_⟩
    rw [if_neg (show ¬ (a = L ∨ a = d) from fun q => q.elim n1 n2), ho] <;> rfl
theorem news_ledger {h : Heap} {L d : Addr} {od : Obj} (hne : d ≠ L) (ho : h.get? d = some od) : News (noObjs h) L h ([] ++ (d, od) :: ledger h L d) := by
  rintro ⟨a, o⟩ hp
  rcases List.mem_cons.mp hp with e | hp
  · cases e
    exact ⟨ho, hne, noObjs_get _ _⟩
  · obtain ⟨n1, n2, e⟩ := mem_ledger.mp hp
    exact ⟨e, n1, noObjs_get _ _⟩
theorem fr_all {h : Heap} {L : Addr} {m : Str → Option Value} (n : h.Ns L m) : Fr (noObjs h) L h m :=
  ⟨n, fun b o e => (by rw [noObjs_get] at e; cases e), Nat.zero_le _⟩
/-- Upd of the head entry (for append_K, setItem_K ..) -/
theorem upd_ledger {h : Heap} {L d : Addr} {o o' : Obj} : Upd d o o' ((d, o) :: ledger h L d) ((d, o') :: ledger h L d) :=
  .head fun ⟨_, _⟩ hp => (mem_ledger.mp hp).2.1

/-- x.name = v over any heap: L is any namespace of the heap (the frame's, say): its map stays, its object is not told; all else but the dict stays -/
theorem set_field {x C dx L : Addr} {ox : Obj} {m : Str → Option Value} {es es' : List DictEntry} {n n' : Nat} {name : Str} {v : Value} {Q : Unit → Shared → Prop}
    (X : K.In s.heap) (I : PySem.W.InstAt s.heap x ox C (some (dictOf es n))) (hd : ox.dict = some dx) (hL : s.heap.Ns L m) (hne : dx ≠ L)
    (hs : findIn K (.ref C) "__setattr__" = some (some (.builtin "object.__setattr__"))) (hp : plainOver K C = true) (ht : takerIn K C name = some none) (hh : hasDictIn K C = true) (hl : (getL name es).isSome = true)
    (e : (putL name (PyData.keyHash w.params name) (.str name (s.toks + 1)) v es, putN name es n) = (es', n')) (hz : es'.length ≤ 1000)
    (h : ∀ h' : Heap, h'.Ns L m → h'.get? dx = some (dictOf es' n') → (∀ b o, b ≠ dx → b ≠ L → s.heap.get? b = some o → h'.get? b = some o) → Q () { s with heap := h', toks := s.toks + 2 }) :
    wpAny (model prog w) A (setAttr (.ref x) name v) Q E s := by
  obtain ⟨e1, e2⟩ := Prod.mk.inj e
  have hdx : s.heap.get? dx = some (dictOf es n) := by
    have := I.dict
    rw [hd] at this
    exact this
  refine set_plain X I hs (osa_dict (s := { s with toks := s.toks + 1 }) (h₀ := noObjs s.heap) (L := L) (m := m) (od := dictOf es n) (od' := dictOf es' n') (es := es') (n := n') (pre := []) (post := ledger s.heap L dx)
    (fr_all hL) (news_ledger hne hdx) X I hd hp ht hh hl (fun _ q => nomatch q) (fun ⟨_, _⟩ q => (mem_ledger.mp q).2.1) (by rw [putName_dict, e1, e2]) rfl hz fun h' F' N' => ?_)
  exact h h' F'.ns (N'.get (List.Mem.head _)) fun b o n1 n2 ho => N'.get (List.Mem.tail _ (mem_ledger.mpr ⟨n2, n1, ho⟩))
end
end Att

namespace L2
open PySem PySem.Spec PyProof.Rows

theorem vals_ints : ∀ {vs : List Value} {ns : List Int}, IntsAre vs ns → Vals (ns.map V.int) vs
  | _, _, .nil => .nil
  | _, _, .cons n t h => .cons ⟨t, rfl⟩ (vals_ints h)

/-- nothing is tracked but the script, known to the object (or it is an object of the module) -/
def Only (H : Hp) : Prop := ∀ b, H b = none ∨ ∃ o xs, H b = some (.frz o (.lst xs))

/-- THE HEAD: the law's promise, at the heap behind the top. F, the promise of the law's def, may use that base is part of the heap (so K.In base, base.Ns mainGlobals mg stand in Mod) -/
theorem law_call {P : Program} {w : World} {K : PySem.W.Frag} {mg mb : Str → Option Value} {CX : CXT} {k : Nat} {fa a : Addr} {fd : FuncData} {x : Str} {sp : Sp} {s₁ : Shared} {vs : List Value} {ns : List Int}
    (KX : K.In s₁.heap) (hns : s₁.heap.Ns mainGlobals mg) (hb : s₁.heap.Ns builtinsNs mb) (hbb : ∀ x : Str, x ≠ "__name__" → mb x = bootBuiltins x) (hlim : s₁.heap.NoLimit) (hg : s₁.gens = #[])
    (ha : s₁.heap.get? a = some { cls := .type "list", data := .seq vs.toArray }) (hi : IntsAre vs ns) (hl : ns.length ≤ sizeLine) (hr : Room k callerA)
    (F : ∀ base : Heap, K.In base → base.Ns mainGlobals mg → FnOk P w K mg base CX k fa fd [x] sp) (hbind : ∀ (s : Shared) (u : Value), BindsTo s fd ⟨[u], []⟩ [(x, u)])
    (hsp : ∀ H : Hp, Only H → SqL K H a (ns.map V.int) → sp [.ref a] H (fun v _ => v = .bl true) fun _ _ _ => False)
    (hCX : ∀ H e s', CX [] H s₁ (fun _ _ _ => False) e s' → False) :
    codeAny (model P w) callerA (.call (.ref fa) ⟨[.ref a], []⟩) (fun r s' => r = .ok (.ret (.bool true)) ∧ OldK s₁.heap s'.heap ∧ s'.os = s₁.os ∧ AllBare s'.gens) s₁ := by
  have rv := vals_ints hi
  have lenV := hi.length
  -- from an abstract heap in which nothing but the script may be tracked
  have core : ∀ H : Hp, Only H → SqL K H a (ns.map V.int) → HOk P w H s₁.heap → (∀ b, H b ≠ none → b = a) → (H a ≠ none → K.lookup a = none) →
      codeAny (model P w) callerA (.call (.ref fa) ⟨[.ref a], []⟩) (fun r s' => r = .ok (.ret (.bool true)) ∧ OldK s₁.heap s'.heap ∧ s'.os = s₁.os ∧ AllBare s'.gens) s₁ := by
    intro H hO hS hok hA hK
    have base_of : ∀ {b : Addr} {o : Obj}, s₁.heap.get? b = some o → H b = none → (hidT s₁.heap H).get? b = some o := fun e n => hidT_get e n
    have noA : ∀ {b : Addr} {o : Obj} {es : Array DictEntry} {ep : Nat}, s₁.heap.get? b = some o → o.data = .dict es ep → H b = none := fun {b o es ep} e d => by
      cases q : H b with
      | none => rfl
      | some u =>
        have e' : b = a := hA b (by rw [q]; simp)
        subst e'
        rw [ha] at e; cases e
        have d' : Data.seq vs.toArray _ = Data.dict es ep := d
        cases d'
    have nsK : ∀ {b : Addr} {m : Str → Option Value}, s₁.heap.Ns b m → (hidT s₁.heap H).Ns b m := fun {b m} ⟨o, es, ep, e, d, r⟩ => ⟨o, es, ep, base_of e (noA e d), d, r⟩
    have hKb : K.In (hidT s₁.heap H) := fun b o e => base_of (KX b o e) (by
      cases q : H b with
      | none => rfl
      | some u =>
        have e' : b = a := hA b (by rw [q]; simp)
        subst e'
        rw [hK (by rw [q]; simp)] at e; cases e)
    have hM : Mod K mg (hidT s₁.heap H) := ⟨hKb, nsK hns, ⟨mb, nsK hb, hbb⟩, let ⟨mc, h1, h2⟩ := hlim; ⟨mc, nsK h1, h2⟩⟩
    have e0 : Env0 P w K mg (hidT s₁.heap H) callerA [] s₁ H := ⟨rfl, hM, fun b o e => of_hidT e, Nat.le_of_eq (hidT_size _ _), trivial, fun b hb => absurd (show b ∈ ([] : List Addr) from hb) (by simp), hok, .of_eq hg⟩
    refine codeAny_mono ((F _ hKb (nsK hns)).run callerA [] s₁ H ⟨[.ref a], []⟩ [.ref a] [.ref a] _ _ hr e0 (hbind s₁ (.ref a)) (.cons rfl .nil) (hsp H hO hS)) fun r s' h => ?_
    cases r with
    | error e => exact (hCX H e s' h).elim
    | ok fl =>
      cases fl with
      | next => exact False.elim h
      | brk => exact False.elim h
      | cont => exact False.elim h
      | ret u =>
        obtain ⟨v, H', os, bare, un, hok', r', q⟩ := h
        have q' : v = .bl true := q
        subst q'
        obtain rfl : u = Value.bool true := r'
        refine ⟨rfl, OldK.of_keep fun b o e => ?_, os, bare⟩
        cases q : H b with
        | none => exact un.keep b o e q (by intro z; exact absurd (show b ∈ ([] : List Addr) from z) (by simp)) (by simp)
        | some u =>
          rcases hO b with z | ⟨ob, xs, z⟩
          · rw [q] at z; cases z
          · have z2 := un.frzs b ob _ z
            obtain ⟨e1, _⟩ := hok b _ z
            obtain ⟨e2, _⟩ := hok' b _ z2
            rw [e] at e1; cases e1
            exact e2
  cases hk : K.lookup a with
  | some o =>
    -- the script is one of the module's own objects
    have e := KX a o hk
    rw [ha] at e
    cases e
    refine core (fun _ => none) (fun _ => .inl rfl) (.inr ⟨_, vs.toArray, _, hk, rfl, rfl, rfl, by rw [List.size_toArray, lenV]; exact hl, by simpa using rv⟩) (fun b u z => by have z' : (none : Option HO) = some u := z; cases z') (fun b z => absurd rfl z) fun z => absurd rfl z
  | none =>
    refine core (fun b => if b = a then some (.frz { cls := .type "list", data := .seq vs.toArray } (.lst (ns.map V.int))) else none) (fun b => ?_) (.inl (.inr ⟨{ cls := .type "list", data := .seq vs.toArray }, if_pos rfl⟩)) (fun b u z => ?_) (fun b z => ?_) fun _ => hk
    · by_cases hb : b = a
      · exact .inr ⟨_, _, if_pos hb⟩
      · exact .inl (if_neg hb)
    · by_cases hb : b = a
      · have z' := (if_pos hb).symm.trans z
        cases z'
        subst hb
        exact ⟨ha, by rw [List.length_map]; exact hl, vs, _, rv, ha⟩
      · have z' := (if_neg hb).symm.trans z
        cases z'
    · by_cases hb : b = a
      · exact hb
      · exact absurd (if_neg hb) z
end L2

namespace L2
open PySem PySem.Spec PyProof.Rows

abbrev KOf {K : PySem.W.Frag} {h : Heap} (_ : K.In h) : PySem.W.Frag := K

/-- the goal that k_head leaves (case hc), from the law's promise. F gives the function object fd (K's own) once, then the promise over every base -/
theorem walk_of {l : PySem.W.OpenLaw} {n k : Nat} {q : Program} {loose : List Str} {XP : (Str → Option Value) → Heap → Prop} {YP : World → Heap → Prop} {d : DefRec} {K : Params → PySem.W.Frag} {CX : World → CXT} {sp : World → Sp} {x : Str}
    (hn : l.most = some n) (hn2 : n ≤ sizeLine) (hdf : d.params.defaults = []) (hr : Room k callerA)
    (hY : ∀ (w : World) (h : Heap), YP w h → (K w.params).In h)
    (F : ∀ (w : World) (mg : Str → Option Value) (fa : Addr) (h : Heap), (K w.params).In h → h.Ns mainGlobals mg → mg d.name = some (.ref fa) →
      ∃ fd : FuncData, (∀ (s : Shared) (u : Value), BindsTo s fd ⟨[u], []⟩ [(x, u)]) ∧
        ∀ base : Heap, (K w.params).In base → base.Ns mainGlobals mg → FnOk l.prog w (K w.params) mg base (CX w) k fa fd [x] (sp w))
    (hsp : ∀ (w : World) (H : Hp) (a : Addr) (ns : List Int), ns.length ≤ n → Only H → SqL (K w.params) H a (ns.map V.int) → sp w [.ref a] H (fun v _ => v = .bl true) fun _ _ _ => False)
    (hCX : ∀ (w : World) (H : Hp) (s : Shared) (e : Value) (s' : Shared), CX w [] H s (fun _ _ _ => False) e s' → False) :
    PySem.W.WalkO q loose XP YP l.row.toRowW d [] (fun f vs => PySem.call f vs) := by
  refine Att.attach_call hn hdf fun w s₀ s₁ mg mb fa o pm cd doc a vs ns G Y ho hd hcd hmg hobj hints hlen hg => ?_
  have KX := hY w _ Y
  obtain ⟨fd, hb, hF⟩ := F w mg fa _ KX G.T.g hmg
  exact law_call KX G.T.g G.T.b G.T.builtins G.T.nolimit hg hobj hints (Nat.le_trans hlen hn2) hr hF hb (fun H hO hS => hsp w H a ns hlen hO hS) fun H e s' => hCX w H s₁ e s'
/-- the same where the promise hangs on the written part alone: (sp := My.sp_law), no hole under a binder -/
theorem walk_ofK {l : PySem.W.OpenLaw} {n k : Nat} {q : Program} {loose : List Str} {XP : (Str → Option Value) → Heap → Prop} {YP : World → Heap → Prop} {d : DefRec} {K : Params → PySem.W.Frag} {CX : CXT} {sp : PySem.W.Frag → Sp} {x : Str}
    (hn : l.most = some n) (hn2 : n ≤ sizeLine) (hdf : d.params.defaults = []) (hr : Room k callerA)
    (hY : ∀ (w : World) (h : Heap), YP w h → (K w.params).In h)
    (F : ∀ (w : World) (mg : Str → Option Value) (fa : Addr) (h : Heap), (K w.params).In h → h.Ns mainGlobals mg → mg d.name = some (.ref fa) →
      ∃ fd : FuncData, (∀ (s : Shared) (u : Value), BindsTo s fd ⟨[u], []⟩ [(x, u)]) ∧
        ∀ base : Heap, (K w.params).In base → base.Ns mainGlobals mg → FnOk l.prog w (K w.params) mg base CX k fa fd [x] (sp (K w.params)))
    (hsp : ∀ (K : PySem.W.Frag) (H : Hp) (a : Addr) (ns : List Int), ns.length ≤ n → Only H → SqL K H a (ns.map V.int) → sp K [.ref a] H (fun v _ => v = .bl true) fun _ _ _ => False)
    (hCX : ∀ (H : Hp) (s : Shared) (e : Value) (s' : Shared), CX [] H s (fun _ _ _ => False) e s' → False) :
    PySem.W.WalkO q loose XP YP l.row.toRowW d [] (fun f vs => PySem.call f vs) :=
  walk_of (K := K) (CX := fun _ => CX) (sp := fun w => sp (K w.params)) hn hn2 hdf hr hY F (fun w H a ns h1 h2 h3 => hsp (K w.params) H a ns h1 h2 h3) fun _ H s e s' => hCX H s e s'
end L2

/- THE LAST THEOREM (shape; LID, My.* are yours):
   My.Adr: a structure of the addresses that your layer names (classes, functions); My.Txt K t: a structure (Prop) of the equations over K;
   My.txt_mk : {K} {implicit addresses ..} (e1 : nsIn K mainGlobals "law" = some (some (.ref f))) (e2 : K.lookup f = some ⟨oc, od, .func (fnOf "law" "law" params body scope dV kV doc pm an cdv ct), sl⟩) (e3 : codeIn K cdv "law" = true) .. : ∃ t, My.Txt K t

set_option maxRecDepth 100000 in
set_option maxHeartbeats 0 in
theorem PySem.Challenge.cw_LID_holds : PySem.Challenge.rw_LID.Holds := by
  w_on; o_law; k_head; (case hw => w_witness2)
  k_fill
  refine L2.walk_of (l := PySem.Challenge.rw_LID) (n := 63) (k := 40) (x := "script") (CX := fun w => ..) (sp := fun _ => My.sp_law) rfl (by decide) rfl ⟨rfl, by decide, by decide⟩ (fun w h Y => PySem.W.kIn_of Y) ?F ?S ?C
  case F =>
    intro w mg fa h KX G hmg
    have T : ∃ t, My.Txt (L2.KOf KX) t := by
      dsimp only [L2.KOf]                          -- K must stand as «<heap const> w.params» for k_is
      refine' My.txt_mk ?e1 ?e2 ?e3 ..
      (case e1 => PySem.W.k_is)                    -- in the order: a name -> its address -> its object -> its parts
      (case e2 => PySem.W.k_is)
      ..
    obtain ⟨t, T⟩ := T
    have e0 := hmg.symm.trans (PySem.W.mg_of KX G T.law)
    cases e0                                       -- fa is the law's own address
    exact ⟨_, fun s u => .of_eq rfl, fun base kb nb => My.law_fn T kb nb⟩     -- if «.of_eq rfl» comes too early: refine' ⟨_, ?b, fun base kb nb => My.law_fn T kb nb⟩; exact fun s u => .of_eq rfl
  case S => exact fun w H a ns hl hO hS => ..
  case C => exact ..
(the tactic k_is has no namespace: write k_is) -/

/-! SHORT WORDS over the layer: a def of the text, its body, what a loop and a test want. -/
namespace L2
open PySem PySem.Spec PyProof.Rows

/-! ### the text by places -/
/-- the j-th statement of a class's body -/
def inClass (s : Stmt) (j : Nat) : Stmt := match s with
  | .ClassDef _ _ _ body _ _ _ _ _ _ _ => body.getD j (.Pass ⟨0, 0, 0, 0⟩)
  | _ => .Pass ⟨0, 0, 0, 0⟩
def defArgs (s : Stmt) : Arguments := match s with
  | .FunctionDef _ a _ _ _ _ _ _ _ _ => a
  | _ => { posonlyargs := [], args := [], vararg := none, kwonlyargs := [], kw_defaults := [], kwarg := none, defaults := [] }
def defBody (s : Stmt) : List Stmt := match s with
  | .FunctionDef _ _ b _ _ _ _ _ _ _ => b
  | _ => []
def defScope (s : Stmt) : Scope := match s with
  | .FunctionDef _ _ _ _ _ _ sc _ _ _ => sc
  | _ => { kind := .function, names := [], isGenerator := false, isCoroutine := false }

/-! ### no exception leaves a def -/
abbrev CX0 : CXT := fun _ _ _ _ _ _ => False
abbrev E0 : XK := fun _ _ _ => False
theorem pass0 {X : Cx} : Passes CX0 X E0 := fun _ _ _ _ _ _ _ h => h.elim

/-! ### a def (or method) of the text as it stands behind the top -/
structure Fun (K : PySem.W.Frag) (x qual : Str) (st : Stmt) (f : Addr) (fd : FuncData) : Prop where
  ex : ∃ (oc : Value) (od : Option Addr) (kV doc pm : Value) (an : Option Addr) (cdv ct : Value) (osl : Array (Option Value)),
    fd = PySem.W.fnOf x qual (defArgs st) (defBody st) (defScope st) .none kV doc pm an cdv ct ∧ K.lookup f = some ⟨oc, od, .func fd, osl⟩ ∧ PySem.W.codeIn K cdv qual = true
  kp : PySem.W.keepIn K (.ref f) = true
section
variable {P : Program} {w : World} {K : PySem.W.Frag} {mg : Str → Option Value} {base : Heap}
/-- THE RULE for a def: its body as a term of rules, and the reading of that term -/
theorem Fun.ok {x qual : Str} {st : Stmt} {f : Addr} {fd : FuncData} {N ps : List Str} {k : Nat} {sp : Sp} (F : Fun K x qual st f fd) (S : FnScope N ps (defScope st)) (len : ∀ vs H Q E, sp vs H Q E → vs.length = ps.length)
    (hbody : ∀ (cdv : Value) (A : Around) (outer : List Env) (s : Shared) (H : Hp) (vs : List V) (Q : VK) (E : XK), Room k (A.deeper (envOfC qual (defScope st) s.heap.objs.size f cdv)) → sp vs H Q E →
      ∃ t, PSs (cxOf CX0 P w K mg base N qual (defScope st) f cdv A outer s H E).nox (defBody st) t ∧ t { nx := fun _ H' => Q .non H', rt := Q } (start N vs) H) : FnOk P w K mg base CX0 (k + 1) f fd ps sp := by
  obtain ⟨oc, od, kV, doc, pm, an, cdv, ct, osl, rfl, lk, hcd⟩ := F.ex
  refine fn_of lk hcd S len fun A outer s H vs Q E hr hsp => ?_
  obtain ⟨t, h, q⟩ := hbody cdv A outer s H vs Q E hr hsp
  exact ⟨t, h.nox, q⟩
/-- how its arguments bind (no defaults): h is «fun _ _ _ _ _ _ us hl => match us, hl with | [_, _], _ => rfl», one _ a parameter -/
theorem Fun.binds {x qual : Str} {st : Stmt} {f : Addr} {fd : FuncData} {ps : List Str} (F : Fun K x qual st f fd)
    (h : ∀ (kV doc pm : Value) (an : Option Addr) (cdv ct : Value) (us : List Value), us.length = ps.length → bindArgs (PySem.W.fnOf x qual (defArgs st) (defBody st) (defScope st) .none kV doc pm an cdv ct) ⟨us, []⟩ = pure (ps.zip us)) : Binds K fd ps [] := by
  obtain ⟨oc, od, kV, doc, pm, an, cdv, ct, osl, rfl, lk, hcd⟩ := F.ex
  exact .all (h kV doc pm an cdv ct)
theorem fun_mk {x qual : Str} {st : Stmt} {f : Addr} {oc : Value} {od an : Option Addr} {osl : Array (Option Value)} {kV doc pm cdv ct : Value} (l : K.lookup f = some ⟨oc, od, .func (PySem.W.fnOf x qual (defArgs st) (defBody st) (defScope st) .none kV doc pm an cdv ct), osl⟩)
    (c : PySem.W.codeIn K cdv qual = true) (k : PySem.W.keepIn K (.ref f) = true) : Fun K x qual st f (PySem.W.fnOf x qual (defArgs st) (defBody st) (defScope st) .none kV doc pm an cdv ct) := ⟨⟨oc, od, kV, doc, pm, an, cdv, ct, osl, rfl, l, c⟩, k⟩
end
theorem hu_of {A : Around} {k : Nat} (hr : Room k A) : A.units + 1 < cLine := Nat.lt_of_le_of_lt (Nat.add_le_add_left (by decide : 1 ≤ 64) _) hr.units
theorem small1000 {n : Nat} (h : n ≤ 1000) : n < sizeLine := Nat.lt_of_le_of_lt h (by decide)

/-! ### expressions in short: the name that stands in the i-th slot -/
section
variable {X : Cx}
theorem pv (i : Nat) {x : Str} {pos : Pos} (hN : X.N[i]? = some x := by rfl) (hv : Vis X.env.scope x := by first | exact Or.inl rfl | exact Or.inr (Or.inl rfl) | exact Or.inr (Or.inr rfl)) (hd : (x == ("__debug__" : Str)) = false := by decide)
    (hcd : (x == ("__classdict__" : Str)) = false := by decide) : PE X (.Name x pos) (tVar i) := pe_var hN hv hd hcd
end

/-! ### tests -/
theorem iteF {A B : Prop} (h : B) : if false = true then A else B := by
  rw [if_neg Bool.false_ne_true]
  exact h
theorem iteT {A B : Prop} (h : A) : if true = true then A else B := by
  rw [if_pos rfl]
  exact h
theorem ite2 {c A B : Prop} [Decidable c] (h1 : c → A) (h2 : ¬ c → B) : if c then A else B := by
  by_cases h : c
  · rw [if_pos h]
    exact h1 h
  · rw [if_neg h]
    exact h2 h
theorem iteNS {c A B : Prop} [Decidable c] (hc : c) (h : B) : if (!decide c) = true then A else B := by
  rw [decide_eq_true hc]
  exact iteF h

/-! ### heaps -/
/-- all that was tracked is as it was -/
def Same (H H' : Hp) : Prop := ∀ b o, H b = some o → H' b = some o
theorem Same.refl (H : Hp) : Same H H := fun _ _ h => h
theorem Same.trans {H H1 H2 : Hp} (a : Same H H1) (b : Same H1 H2) : Same H H2 := fun c o h => b c o (a c o h)
theorem Same.free {H H' : Hp} (e : Same H H') {l : Addr} (h : H' l = Option.none) : H l = Option.none := by
  cases q : H l with
  | none => rfl
  | some o =>
    rw [e l o q] at h
    cases h
theorem Same.seq {K : PySem.W.Frag} {H H' : Hp} {a : Addr} {xs : List V} (e : Same H H') (h : SqL K H a xs) : SqL K H' a xs := by
  rcases h with (h | ⟨o, h⟩) | h
  · exact .inl (.inl (e _ _ h))
  · exact .inl (.inr ⟨o, e _ _ h⟩)
  · exact .inr h

end L2

set_option maxHeartbeats 4000000
/-! ## further rules over the layer: extend by a tuple, == and != beside an empty list, isinstance, sum, slices -/
namespace L2
open PySem PySem.Spec PyProof.Rows
section
open PySem.AutoSeq1 (wpAny_loadPart')
open PySem.MeetsSeq PySem.MeetsSeq2 PySem.MeetsSeq3
theorem extendT_meets (l b : Addr) (xs ys : Array Value) (n k : Nat) (dd : Option Addr) (sl : Array (Option Value)) (h0 : ¬(!xs.isEmpty && Builtin.List.listTooLong (xs.size + ys.size)) = true) (h1 : xs.size ≤ sizeLine)
    (h2 : xs.size + ys.size ≤ sizeLine + 1) :
    Meets (Builtin.«list.extend» ⟨[.ref l, .ref b], []⟩)
      (fun _ R s => s.heap.get? l = some { cls := .type "list", data := .seq xs n } ∧ s.heap.get? b = some { cls := .type "tuple", dict := dd, data := .seq ys k, slots := sl } ∧
        R (.ok (.ret Value.none)) { s with heap := s.heap.update l (Obj.mapSeq fun z => z ++ ys) }) :=
  .of_wp fun prog w A R s h => by
    obtain ⟨hp, g, d, tk, os⟩ := s
    obtain ⟨ha, hb, h⟩ := h
    have t1 := AutoSeq1.idx_int
    have t2 := AutoSeq1.sub_tuple_tuple
    have t3 := AutoSeq1.sub_list_list
    have t4 := AutoSeq1.sub_tuple_list
    have t5 := AutoSeq1.sub_list_tuple
    have hz : (xs ++ ys).size ≤ sizeLine + 1 := by rw [Array.size_append]; exact h2
    wp_walk using (wpAny_updateSeq ha rfl (hz := h1) (_hz' := hz)), wpAny_loadPart' ha, wpAny_loadPart' hb
    exact ⟨_, rfl, h⟩
end
section
variable {X : Cx}
/-- xs.extend(t), t a tuple -/
def rExtendT (K : PySem.W.Frag) : V → List V → Hp → VK → Prop := fun x vs H Q => ∃ l b xs zs, x = .ref l ∧ vs = [.ref b] ∧ H l = some (.lst xs) ∧ SqT K H b zs ∧ xs.length + zs.length ≤ sizeLine ∧ Q .non (upd H l (.lst (xs ++ zs)))
theorem mt_extendT : MtR X "list.extend" (rExtendT X.K) := by
  intro pins s σ H x vs v us Q I rx rv h
  obtain ⟨l, b, xs, zs, rfl, rfl, hH, hB, hz, q⟩ := h
  cases rx
  obtain ⟨u, rfl, ru⟩ := rv.one
  cases ru
  obtain ⟨z, its, n, r, hl, e⟩ := I.lstM hH
  obtain ⟨its2, r2, pl, z2⟩ := I.tuple hB
  have hl2 := r2.length
  obtain ⟨⟨cls, dd, data, sl⟩, ho, hc, k, hd⟩ := pl
  simp only at hc hd
  subst hc hd
  have hsz : its.toArray.size + its2.toArray.size ≤ sizeLine := by rw [List.size_toArray, List.size_toArray]; omega
  have hlong : ¬ (!its.toArray.isEmpty && Builtin.List.listTooLong (its.toArray.size + its2.toArray.size)) = true := by
    rw [notLongL hsz, Bool.and_false]
    exact Bool.false_ne_true
  refine call_meets F.slot_list_extend ⟨_, e, rfl⟩ F.entry_list_extend (F.args_list_extend_2 _ _)
    (extendT_meets l b its.toArray its2.toArray n k dd sl hlong (by rw [List.size_toArray]; omega) (by omega)) ⟨e, ho, ?_⟩
  refine ⟨.non, _, I.lset (its' := its ++ its2) hH e (by simp) (r.append r2) ?_, rfl, q⟩
  rw [List.length_append]
  omega
/-- xs != [], xs == [] -/
def rNil (neg : Bool) : R2 := fun x y H Q => ∃ l b xs, x = .ref l ∧ y = .ref b ∧ H l = some (.lst xs) ∧ H b = some (.lst []) ∧ Q (.bl (if neg then !xs.isEmpty else xs.isEmpty)) H
theorem op_neNil (hu : X.A.units < cLine) : OpR X (compareOp .NotEq) (rNil true) := by
  intro pins s σ H x y v u Q I rx ry h
  obtain ⟨l, b, xs, rfl, rfl, hl, hb, q⟩ := h
  cases rx
  cases ry
  obtain ⟨_, its, n, r, el, e⟩ := I.lstM hl
  obtain ⟨_, its2, n2, r2, el2, e2⟩ := I.lstM hb
  have z2 := r2.zero
  subst z2
  cases r with
  | nil =>
    exact richCompare_meets_room (op := .NotEq) ⟨_, e, rfl⟩ ⟨_, e2, rfl⟩ F.slot_list_ne F.entry_list_ne (F.args_list_ne_2 _ _)
      (SeqAt.list_neAt l b _ _ n n2 none none #[] #[] rfl (fun _ => true)) ⟨e, e2, (fun j h1 _ => absurd h1 (Nat.not_lt_zero _)), (fun z => nomatch z), .bl false, H, I, rfl, q⟩ hu
  | cons r1 rr =>
    exact richCompare_meets_room (op := .NotEq) ⟨_, e, rfl⟩ ⟨_, e2, rfl⟩ F.slot_list_ne F.entry_list_ne (F.args_list_ne_2 _ _)
      (SeqAt.list_ne_lengthsAt l b _ _ n n2 none none #[] #[] (by simp)) ⟨e, e2, (fun z => nomatch z), .bl true, H, I, rfl, q⟩ hu
theorem op_eqNil (hu : X.A.units < cLine) : OpR X (compareOp .Eq) (rNil false) := by
  intro pins s σ H x y v u Q I rx ry h
  obtain ⟨l, b, xs, rfl, rfl, hl, hb, q⟩ := h
  cases rx
  cases ry
  obtain ⟨_, its, n, r, el, e⟩ := I.lstM hl
  obtain ⟨_, its2, n2, r2, el2, e2⟩ := I.lstM hb
  have z2 := r2.zero
  subst z2
  cases r with
  | nil =>
    exact richCompare_meets_room (op := .Eq) ⟨_, e, rfl⟩ ⟨_, e2, rfl⟩ F.slot_list_eq F.entry_list_eq (F.args_list_eq_2 _ _)
      (SeqAt.list_eqAt l b _ _ n n2 none none #[] #[] rfl (fun _ => true)) ⟨e, e2, (fun j h1 _ => absurd h1 (Nat.not_lt_zero _)), (fun z => nomatch z), .bl true, H, I, rfl, q⟩ hu
  | cons r1 rr =>
    exact richCompare_meets_room (op := .Eq) ⟨_, e, rfl⟩ ⟨_, e2, rfl⟩ F.slot_list_eq F.entry_list_eq (F.args_list_eq_2 _ _)
      (SeqAt.list_eq_lengthsAt l b _ _ n n2 none none #[] #[] (by simp)) ⟨e, e2, (fun z => nomatch z), .bl false, H, I, rfl, q⟩ hu
/-! ### isinstance -/
theorem kit_of {pins : List (Addr × Obj)} {σ : St} {H : Hp} {s : Shared} {x : V} {u t : Value} (I : Inv X pins σ H s) (rx : RelV x u) (ty : TyOf X.K H x t) :
    ∃ Hh : Heap → Prop, PySem.W.KitX X.K u t Hh ∧ Hh s.heap ∧ u ≠ .builtin "__main__.__loader__#opaque" := by
  cases ty with
  | non => cases (show u = Value.none from rx); exact ⟨_, PySem.W.kitx_none, True.intro, fun z => nomatch z⟩
  | bl y => cases (show u = Value.bool y from rx); exact ⟨_, PySem.W.kitx_bool, True.intro, fun z => nomatch z⟩
  | int i => obtain ⟨t, q⟩ := (show ∃ t, u = Value.int i t from rx); cases q; exact ⟨_, PySem.W.kitx_int, True.intro, fun z => nomatch z⟩
  | str y => obtain ⟨t, q⟩ := (show ∃ t, u = Value.str y t from rx); cases q; exact ⟨_, PySem.W.kitx_str, True.intro, fun z => nomatch z⟩
  | flt y => obtain ⟨t, q⟩ := (show ∃ t, u = Value.float y t from rx); cases q; exact ⟨_, PySem.W.kitx_float, True.intro, fun z => nomatch z⟩
  | @lst a xs ea =>
    cases (show u = Value.ref a from rx)
    obtain ⟨_, _, n, _, h1⟩ := (show ObjOk X.prog X.w H s.heap a (.lst xs) from I.hok a _ ea)
    exact ⟨_, PySem.W.kitx_list, ⟨_, h1, rfl⟩, fun z => nomatch z⟩
  | @frz a ob xs ea =>
    cases (show u = Value.ref a from rx)
    obtain ⟨_, _, _, n, _, h1⟩ := (show ObjOk X.prog X.w H s.heap a (.frz ob (.lst xs)) from I.hok a _ ea)
    exact ⟨_, PySem.W.kitx_list, ⟨_, h1, rfl⟩, fun z => nomatch z⟩
  | @tup a xs ea =>
    cases (show u = Value.ref a from rx)
    obtain ⟨_, _, _, p⟩ := (show ObjOk X.prog X.w H s.heap a (.tup xs) from I.hok a _ ea)
    obtain ⟨o, h1, h2, _⟩ := p
    exact ⟨_, PySem.W.kitx_tuple, ⟨o, h1, h2⟩, fun z => nomatch z⟩
  | @dK a kvs ea =>
    cases (show u = Value.ref a from rx)
    obtain ⟨_, _, vs, _, p⟩ := (show ObjOk X.prog X.w H s.heap a (.dK kvs) from I.hok a _ ea)
    obtain ⟨o, es, ep, h1, h2, _⟩ := p
    exact ⟨_, PySem.W.kitx_dict, ⟨o, h1, h2.1⟩, fun z => nomatch z⟩
  | @dT a kvs ea =>
    cases (show u = Value.ref a from rx)
    obtain ⟨_, _, xs, _, o, es, ep, h1, h2, _⟩ := (show ObjOk X.prog X.w H s.heap a (.dT kvs) from I.hok a _ ea)
    exact ⟨_, PySem.W.kitx_dict, ⟨o, h1, h2.1⟩, fun z => nomatch z⟩
  | @ins a C dx fs ea cl ha hn htk hm =>
    cases (show u = Value.ref a from rx)
    obtain ⟨mA, O, _⟩ := ins_get I.hok ea
    obtain ⟨od, J, _⟩ := O.look
    exact ⟨_, PySem.W.kitx_own (cl.get _) cl.hd ha hn htk hm, J, fun z => nomatch z⟩
/-- isinstance(x, T) -/
def rIs1 (K : PySem.W.Frag) : List V → Hp → VK → Prop := fun xs H Q => ∃ x n t b, xs = [x, .ty n] ∧ TyOf K H x t ∧ PySem.W.kitOne K t (.type n) = some b ∧ Q (.bl b) H
theorem call_is1 : CallR X (.builtin "isinstance") (rIs1 X.K) := by
  intro pins s σ H xs us Q I r h
  obtain ⟨x, n, t, b, rfl, ty, e, q⟩ := h
  obtain ⟨u, u2, rfl, r1, r2⟩ := vals2 r
  cases (show u2 = Value.type n from r2)
  exact isinst_ok I r1 ty e fun tk => ⟨.bl b, H, I.tok tk, rfl, q⟩
/-- isinstance(x, (T, U)) -/
def rIs2 (K : PySem.W.Frag) : List V → Hp → VK → Prop := fun xs H Q => ∃ x p n n2 t b, xs = [x, .ref p] ∧ H p = some (.tup [.ty n, .ty n2]) ∧ TyOf K H x t ∧ PySem.W.kitAny K t [.type n, .type n2] = some b ∧ Q (.bl b) H
theorem call_is2 : CallR X (.builtin "isinstance") (rIs2 X.K) := by
  intro pins s σ H xs us Q I r h
  obtain ⟨x, p, n, n2, t, b, rfl, hp, ty, e, q⟩ := h
  obtain ⟨u, u2, rfl, r1, r2⟩ := vals2 r
  cases r2
  obtain ⟨Hh, Z, zh, ne⟩ := kit_of I r1 ty
  obtain ⟨_, its, rv, pl⟩ := (show ObjOk X.prog X.w H s.heap p (.tup [.ty n, .ty n2]) from I.hok p _ hp)
  obtain ⟨t1, t2, rfl, q1, q2⟩ := vals2 rv
  cases (show t1 = Value.type n from q1)
  cases (show t2 = Value.type n2 from q2)
  obtain ⟨⟨cls, dd, data, sl⟩, ho, hc, k, hd⟩ := pl
  simp only at hc hd
  subst hc hd
  exact PySem.W.kia_tup Z I.kIn zh ho e ne fun tk => ⟨.bl b, H, I.tok tk, rfl, q⟩
/-- sum(xs) of ints -/
theorem call_sum (hc : X.calm = true) : CallR X (.builtin "sum") (fun xs H Q => ∃ (p : Addr) (ns : List Int), xs = [.ref p] ∧ SqL X.K H p (ns.map V.int) ∧ Q (.int ns.sum) H) := by
  intro pins s σ H xs us Q I r h
  obtain ⟨p, ns, rfl, hq, q⟩ := h
  obtain ⟨u, rfl, rx⟩ := vals1 r
  cases rx
  obtain ⟨its, r', pl, hz⟩ := I.list hq
  have hi : IntsAre its ns := intsAre_of r'
  obtain ⟨xs, hx⟩ := hi.allInts.items
  refine sum_intListG (I.ok.hd hc) (hx ▸ pl.isList) fun h' tk t' hk => ?_
  have e1 : ns = xs.toList.map (·.1) := by
    rw [← nums_intItems, ← hx]
    exact (show numsOf its.toArray.toList = ns from hi.numsOf).symm
  have e2 : preSum (numAt xs) xs.size = ns.sum := by
    rw [preSum_eq, List.take_of_length_le (by simp), e1]
  rw [e2]
  exact ⟨.int ns.sum, H, I.kept hk, ⟨t', rfl⟩, q⟩
end
/-! ### slices -/
theorem cut_from (xs : List V) (k : Nat) : cutV xs (some (k : Int)) none = xs.drop k := by
  unfold cutV
  rw [HT.sIx_none, HT.sIx_nat]
  by_cases h : k ≤ xs.length
  · rw [Nat.min_eq_left h, List.take_of_length_le (by rw [List.length_drop]; exact Nat.le_refl _)]
  · rw [Nat.min_eq_right (by omega), List.drop_eq_nil_of_le (Nat.le_refl _), List.drop_eq_nil_of_le (by omega)]
    exact List.take_nil
theorem cut_to (xs : List V) (k : Nat) : cutV xs none (some (k : Int)) = xs.take k := by
  unfold cutV
  rw [HT.sIx_none, HT.sIx_nat, List.drop_zero, Nat.sub_zero]
  by_cases h : k ≤ xs.length
  · rw [Nat.min_eq_left h]
  · rw [Nat.min_eq_right (by omega), List.take_of_length_le (Nat.le_refl _), List.take_of_length_le (by omega)]
theorem itD {c A B : Prop} [Decidable c] (hc : c) (h : A) : if (decide c) = true then A else B := by rw [if_pos (decide_eq_true hc)]; exact h
theorem itN {c A B : Prop} [Decidable c] (hc : ¬ c) (h : B) : if (decide c) = true then A else B := by
  rw [if_neg (by rw [decide_eq_false hc]; exact Bool.false_ne_true)]; exact h
end L2

/-! ## further rules: a read list beside [], an index sought, weaker readings -/
namespace L2
open PySem PySem.Spec PyProof.Rows
section
variable {X : Cx}
/-- xs == [], xs != [] of a list that is read -/
def rNilS (K : PySem.W.Frag) (neg : Bool) : R2 := fun x y H Q => ∃ l b xs, x = .ref l ∧ y = .ref b ∧ SqL K H l xs ∧ H b = some (.lst []) ∧ Q (.bl (if neg then !xs.isEmpty else xs.isEmpty)) H
theorem op_eqNilS (hu : X.A.units < cLine) : OpR X (compareOp .Eq) (rNilS X.K false) := by
  intro pins s σ H x y v u Q I rx ry h
  obtain ⟨l, b, xs, rfl, rfl, hl, hb, q⟩ := h
  cases rx
  cases ry
  obtain ⟨its, r, pl, _⟩ := I.list hl
  obtain ⟨_, its2, n2, r2, el2, e2⟩ := I.lstM hb
  have z2 := r2.zero
  subst z2
  obtain ⟨⟨cls, dd, data, sl⟩, n, e, hc, hdd, hd⟩ := pl
  simp only at hc hdd hd
  subst hc hdd hd
  cases r with
  | nil =>
    exact richCompare_meets_room (op := .Eq) ⟨_, e, rfl⟩ ⟨_, e2, rfl⟩ F.slot_list_eq F.entry_list_eq (F.args_list_eq_2 _ _)
      (SeqAt.list_eqAt l b _ _ n n2 none none sl #[] rfl (fun _ => true)) ⟨e, e2, (fun j h1 _ => absurd h1 (Nat.not_lt_zero _)), (fun z => nomatch z), .bl true, H, I, rfl, q⟩ hu
  | cons r1 rr =>
    exact richCompare_meets_room (op := .Eq) ⟨_, e, rfl⟩ ⟨_, e2, rfl⟩ F.slot_list_eq F.entry_list_eq (F.args_list_eq_2 _ _)
      (SeqAt.list_eq_lengthsAt l b _ _ n n2 none none sl #[] (by simp)) ⟨e, e2, (fun z => nomatch z), .bl false, H, I, rfl, q⟩ hu
/-- xs.index(y), flat items, y among them -/
def rIndex : V → List V → Hp → VK → Prop := fun x vs H Q => ∃ l xs y j, x = .ref l ∧ vs = [y] ∧ H l = some (.lst xs) ∧ flatV y = true ∧ xs.all flatV = true ∧ xs.findIdx? (fun z => eqV z y) = some j ∧ Q (.int ((j : Nat) : Int)) H
theorem mt_index : MtR X "list.index" rIndex := by
  intro pins s σ H x vs v us Q I rx rv h
  obtain ⟨l, xs, y, j, rfl, rfl, hH, fy, fx, hj, q⟩ := h
  cases rx
  obtain ⟨u, rfl, ru⟩ := rv.one
  obtain ⟨z, its, n, r, hl, e⟩ := I.lstM hH
  obtain ⟨hlt, hp, hno⟩ := List.findIdx?_eq_some_iff_getElem.mp hj
  have at_ : ∀ (m : Nat) (hm : m < its.toArray.size) (hm' : m < xs.length), eqU y its.toArray[m] = eqV xs[m] y := fun m hm hm' => by
    obtain ⟨w', hw, rw'⟩ := r.get (List.getElem?_eq_getElem hm')
    have e1 : its.toArray[m] = w' := by
      have e2 := List.getElem?_eq_some_iff.mp hw
      obtain ⟨h1, h2⟩ := e2
      simpa using h2
    rw [e1]
    exact eqU_of rw' (List.all_eq_true.mp fx _ (List.getElem_mem hm'))
  have hj' : j < its.toArray.size := by rw [List.size_toArray, ← hl]; exact hlt
  have hz : xs.length ≤ 16777216 := z
  refine call_meets F.slot_list_index ⟨_, e, rfl⟩ F.entry_list_index (F.args_list_index_2 _ _)
    (SeqAt.list_indexAt l its.toArray n none #[] u (eqU y) j hj' (by omega) (by rw [at_ j hj' hlt]; exact hp) (fun m hm hmj => by
      rw [at_ m hm (by omega)]
      have := hno m hmj
      simpa using this)) ⟨e, fun w' hw => mem_eqAt ru fy r fx w' (by simpa using hw), .int j, H, I.tok _, ⟨_, rfl⟩, q⟩
theorem pe_weak {e : Expr} {t t' : TE} (h : PE X e t) (wk : ∀ σ H Q, t' σ H Q → t σ H Q) : PE X e t' := fun pins s σ H Q I q => h pins s σ H Q I (wk σ H Q q)
theorem ps_weak {st : Stmt} {t t' : TS} (h : PS X st t) (wk : ∀ D σ H, t' D σ H → t D σ H) : PS X st t' := fun pins s σ H D I q => h pins s σ H D I (wk D σ H q)
theorem pt_weak {e : Expr} {t t' : TT} (h : PT X e t) (wk : ∀ σ H Q, t' σ H Q → t σ H Q) : PT X e t' := fun pins s σ H Q I q => h pins s σ H Q I (wk σ H Q q)
end
end L2
namespace Ws
open PySem L2
/-- a def as a caller sees it -/
structure MG (K : PySem.W.Frag) (mg : Str → Option Value) (x : Str) (ps : List Str) (f : Addr) (fd : FuncData) : Prop where
  m : mg x = some (.ref f)
  k : PySem.W.keepIn K (.ref f) = true
  b : Binds K fd ps []
end Ws

/-! ## list comprehensions over the layer -/
namespace L2
open PySem PySem.Spec PyProof.Rows
/-- the context of a comprehension's block -/
def cxComp (X : Cx) (N : List Str) (scope : Scope) (cl : List (Str × Addr)) (C : Addr) (fp : List Addr) (s : Shared) (H : Hp) : Cx where
  prog := X.prog
  w := X.w
  K := X.K
  mg := X.mg
  base := X.base
  A := X.A
  N := N
  s₀ := s
  H₀ := H
  env := compEnvC scope cl C X.env
  outer := X.stack
  stack := X.stack
  ex := fp
  fn := fun _ => false
  calm := X.calm
  pn := []
  xe := fun _ _ => False
/-- the tests of a comprehension -/
def PF (X : Cx) (ifs : List Expr) (t : TT) : Prop :=
  ∀ (pins : List (Addr × Obj)) (s : Shared) (σ : St) (H : Hp) (Q : Bool → Hp → Prop), Inv X pins σ H s → t σ H Q →
    wpAny (model X.prog X.w) X.A (forIn ifs true fun c r => if r = true then do let ok ← isTrue c X.env (eval c X.env); pure (ForInStep.yield ok) else pure (ForInStep.yield r)) (TP X pins σ Q) X.xe s
theorem pf_nil {X : Cx} : PF X [] (fun _ H Q => Q true H) := fun _ _ _ H _ I h => wpAny_tests_nil ⟨H, I, h⟩
theorem pf_one {X : Cx} {c : Expr} {t : TT} (h : PT X c t) : PF X [c] t := fun pins s σ H Q I q => wpAny_tests_one (h pins s σ H Q I q)
theorem comp_loop {X : Cx} {tg iter elt : Expr} {ifs : List Expr} {scope : Scope} {pos : Pos} {J : It} {fp : List Addr} {it D : Addr} {tn : Nat → Heap → Prop} {g : TG} {tf : TT} {te : TE} {R : Result → Shared → Prop} {s : Shared}
    (hc : X.calm = true) (hx : X.xe = fun _ _ => False) (T : Turn X.prog X.w X.K tg J fp it tn) (hg : PG X tg g) (hf : PF X ifs tf) (he : PE X elt te)
    (stat : ∀ b ∈ fp, b ≠ X.env.locals ∧ b ∉ X.fs ∧ (b ∈ X.ex ∨ X.s₀.heap.objs.size ≤ b) ∧ (∀ x c, X.env.cells.lookup x = some c → c ≠ b) ∧ ∀ p ∈ X.pn ++ ([] : List (Addr × Obj)), p.1 ≠ b)
    (W : Nat → Nat → List V → St → Hp → Prop) (Fi : Hp → Prop)
    (turn : ∀ i m ys τ H, W i m ys τ H → (J.stop i H ∧ Fi H) ∨ (J.go i H ∧ ∃ N : List V → St → Hp → Prop, (∀ zs τ' H', N zs τ' H' → ∃ m', m' < m ∧ W (i + 1) m' zs τ' H') ∧ ∀ x H1, J.yld i H x H1 → g x τ H1 fun τ2 H2 => tf τ2 H2 fun b H3 =>
      if b = true then te τ2 H3 fun y H4 => H4 D = some (.lst ys) ∧ ys.length < sizeLine ∧ N (ys ++ [y]) τ2 (upd H4 D (.lst (ys ++ [y]))) else N ys τ2 H3))
    (hR : ∀ s' τ' H', Inv X [] τ' H' s' → (∀ b ∈ fp, H' b = none) → Fi H' → R (.ok .next) s')
    {m0 : Nat} {τ : St} {H : Hp} (I : Inv X [] τ H s) (st : tn 0 s.heap) (fr : ∀ b ∈ fp, H b = none) (w0 : W 0 m0 [] τ H) :
    codeAny (model X.prog X.w) X.A (.compLoop (.ListComp elt [⟨tg, iter, ifs, 0⟩] scope pos) 0 (.ref it) (.ref D) X.env) R s := by
  refine codeAny_loop rfl (fun n s' => ∃ i ys τ' H', Inv X [] τ' H' s' ∧ tn i s'.heap ∧ (∀ b ∈ fp, H' b = none) ∧ W i n ys τ' H') (fun n s3 hI => ?_) m0 ⟨0, [], τ, H, I, st, fr, w0⟩
  obtain ⟨i, ys, τ3, H3, I3, st3, fr3, w3⟩ := hI
  show wpAny _ X.A ((compTurn (.ListComp elt [⟨tg, iter, ifs, 0⟩] scope pos) 0 (.ref it) (.ref D) X.env).onRaise (fun x => do noteFrame x X.env; theTreesLotGoes x)) _ _ s3
  refine wpAny_noted ?_
  rw [compTurn_list]
  have noE : ∀ {α : Type} {t : Sem α} {Q : α → Shared → Prop} {E : Value → Shared → Prop} {s : Shared}, wpAny (model X.prog X.w) X.A t Q X.xe s → wpAny (model X.prog X.w) X.A t Q E s := fun h =>
    wpAny_mono h (fun _ _ q => q) fun _ _ q => by rw [hx] at q; exact q.elim
  have ok : ∀ {H' : Hp}, (∀ b ∈ fp, H' b = none) → ∀ b ∈ fp, FpOk X [] H' b := fun hn b hb => ⟨hn b hb, stat b hb⟩
  refine wpAny_bind (wpAny_standAt (wpAny_bind ?_))
  rcases turn i n ys τ3 H3 w3 with ⟨stop, fin⟩ | ⟨go, N, hN, step⟩
  · refine thn (T.done X rfl rfl rfl hc i [] s3 τ3 H3 _ I3 (ok fr3) st3 stop) fun r s4 ⟨hr, I4⟩ => ?_
    subst hr
    exact wpAny_pure (hR s4 τ3 H3 I4 fr3 fin)
  · refine thn (T.item X rfl rfl rfl hc i [] s3 τ3 H3 _ I3 (ok fr3) st3 go) fun r s4 ⟨u, hr, h4⟩ => ?_
    subst hr
    refine wpAny_bind (thn h4 fun _ s5 ⟨x, H5, I5, r5, y5, st5, fr5⟩ => ?_)
    have I5' := I5.pinned (ok fr5) (T.obj _ _ st5)
    have back : ∀ {τ7 : St} {H7 : Hp} {s7 : Shared} {m' : Nat} {zs : List V}, Inv X ([] ++ pinsAt fp s5.heap) τ7 H7 s7 → W (i + 1) m' zs τ7 H7 → ∃ i' ys' τ' H', Inv X [] τ' H' s7 ∧ tn i' s7.heap ∧ (∀ b ∈ fp, H' b = none) ∧ W i' m' ys' τ' H' :=
      fun {τ7 H7 s7 m' zs} I7 w7 => by
        refine ⟨i + 1, zs, τ7, H7, I7.unpinned, T.keep _ _ _ st5 fun b hb o e => (I7.pin (b, o) (List.mem_append_right _ (List.mem_append_right _ (mem_pinsAt hb e)))).1, fun b hb => ?_, w7⟩
        obtain ⟨o, e, d⟩ := T.obj _ _ st5 b hb
        exact (I7.pin (b, o) (List.mem_append_right _ (List.mem_append_right _ (mem_pinsAt hb e)))).2.1
    refine wpAny_bind (noE (thn (hg _ s5 τ3 H5 x u _ I5' r5 (step x H5 y5)) fun _ s6 ⟨τ6, H6, I6, q6⟩ => ?_))
    refine wpAny_bind (noE (thn (hf _ s6 τ6 H6 _ I6 q6) fun b s7 ⟨H7, I7, q7⟩ => ?_))
    cases b with
    | false =>
      obtain ⟨m', hm, w7⟩ := hN _ _ _ q7
      exact wpAny_pure ⟨rfl, m', hm, back I7 w7⟩
    | true =>
      refine wpAny_bind (wpAny_bind (noE (thn (he _ s7 τ6 H7 _ I7 q7) fun v s8 ⟨y, H8, I8, r8, hD8, hz, n8⟩ => ?_)))
      refine wpAny_bind (noE (thn (mt_append _ s8 τ6 H8 (.ref D) [y] (.ref D) [v] (fun _ H9 => H9 = upd H8 D (.lst (ys ++ [y]))) I8 rfl (.cons r8 .nil) ⟨D, ys, y, rfl, rfl, hD8, hz, rfl⟩) fun _ s9 ⟨_, H9, I9, _, e9⟩ => ?_))
      subst e9
      obtain ⟨m', hm, w8⟩ := hN _ _ _ n8
      exact wpAny_pure (wpAny_pure ⟨rfl, m', hm, back I9 w8⟩)
/-! ### the closure of a block -/
def clos (env : Env) : List (Str × NameKind) → List (Str × Addr) → List (Str × Addr)
  | [], cs => cs
  | (n, k) :: r, cs => clos env r (if k == .free then (n, (env.cells.lookup n).getD 0) :: cs else cs)
theorem clos_run {env : Env} : ∀ (l : List (Str × NameKind)) (cs : List (Str × Addr)), (∀ x, (x, NameKind.free) ∈ l → ∃ c, env.cells.lookup x = some c) →
    (forIn l cs fun (x : Str × NameKind) (r : List (Str × Addr)) => if (x.2 == NameKind.free) = true then (do let c ← cellOf env x.1; pure (ForInStep.yield ((x.1, c) :: r))) else pure (ForInStep.yield r) : Sem (List (Str × Addr))) = pure (clos env l cs)
  | [], cs, _ => rfl
  | (n, k) :: r, cs, h => by
    have hr : ∀ x, (x, NameKind.free) ∈ r → ∃ c, env.cells.lookup x = some c := fun x m => h x (List.mem_cons_of_mem _ m)
    rw [List.forIn_cons]
    by_cases e : k = .free
    · subst e
      obtain ⟨c, hc⟩ := h n List.mem_cons_self
      have e1 : cellOf env n = pure c := by unfold cellOf; rw [hc]
      show (((if (NameKind.free == NameKind.free) = true then _ else _) : Sem _) >>= _) = _
      rw [if_pos (show (NameKind.free == NameKind.free) = true from rfl), e1, pure_bind, pure_bind]
      show _ = pure (clos env r ((n, (env.cells.lookup n).getD 0) :: cs))
      rw [hc]
      exact clos_run r _ hr
    · have e1 : (k == NameKind.free) = false := by simpa using e
      show (((if (k == NameKind.free) = true then _ else _) : Sem _) >>= _) = _
      rw [if_neg (by rw [e1]; exact Bool.false_ne_true), pure_bind]
      show _ = pure (clos env r (if (k == NameKind.free) = true then _ else cs))
      rw [if_neg (by rw [e1]; exact Bool.false_ne_true)]
      exact clos_run r _ hr
theorem closureFor_eq {scope : Scope} {env : Env} (h : ∀ x, (x, NameKind.free) ∈ scope.names → ∃ c, env.cells.lookup x = some c) : closureFor scope env = pure (clos env scope.names []) := by
  have q := clos_run (env := env) scope.names [] h
  unfold closureFor
  exact (congrArg (· >>= fun r => pure r) q).trans (pure_bind _ _)
/-- what is in the closure is the frame's own cell of that name -/
theorem clos_some {env : Env} : ∀ (l : List (Str × NameKind)) (cs : List (Str × Addr)) (x : Str) (c : Addr), (∀ y, (y, NameKind.free) ∈ l → ∃ c, env.cells.lookup y = some c) →
    (∀ y d, cs.lookup y = some d → env.cells.lookup y = some d) → (clos env l cs).lookup x = some c → env.cells.lookup x = some c
  | [], cs, x, c, _, hc, e => hc x c e
  | (n, k) :: r, cs, x, c, h, hc, e => by
    refine clos_some r _ x c (fun y m => h y (List.mem_cons_of_mem _ m)) (fun y d q => ?_) e
    by_cases hk : (k == NameKind.free) = true
    · rw [if_pos hk] at q
      have hk' : k = .free := by simpa using hk
      subst hk'
      obtain ⟨c0, h0⟩ := h n List.mem_cons_self
      rw [List.lookup_cons] at q
      by_cases hy : (y == n) = true
      · rw [hy] at q
        have q : some ((env.cells.lookup n).getD 0) = some d := q
        have e2 : y = n := by simpa using hy
        rw [h0] at q
        rw [e2, h0]
        exact q
      · have hy' : (y == n) = false := by simpa using hy
        rw [hy'] at q
        exact hc y d q
    · rw [if_neg hk] at q
      exact hc y d q
theorem clos_keep {env : Env} : ∀ (l : List (Str × NameKind)) (cs : List (Str × Addr)) (x : Str), (cs.lookup x).isSome = true → ((clos env l cs).lookup x).isSome = true
  | [], _, _, h => h
  | (n, k) :: r, cs, x, h => by
    refine clos_keep r _ x ?_
    by_cases hk : (k == NameKind.free) = true
    · rw [if_pos hk, List.lookup_cons]
      by_cases hy : (x == n) = true
      · rw [hy]; rfl
      · have hy' : (x == n) = false := by simpa using hy
        rw [hy']; exact h
    · rw [if_neg hk]; exact h
theorem clos_has {env : Env} : ∀ (l : List (Str × NameKind)) (cs : List (Str × Addr)) (x : Str), (x, NameKind.free) ∈ l → ∃ c, (clos env l cs).lookup x = some c
  | (n, k) :: r, cs, x, m => by
    rcases List.mem_cons.mp m with e | m
    · have e1 : x = n := congrArg Prod.fst e
      have e2 : NameKind.free = k := congrArg Prod.snd e
      subst e1 e2
      refine Option.isSome_iff_exists.mp (clos_keep r _ x ?_)
      rw [if_pos (show (NameKind.free == NameKind.free) = true from rfl), List.lookup_cons]
      have e3 : (x == x) = true := by simp
      rw [e3]; rfl
    · exact clos_has r _ x m
/-- relabelled names -/
theorem relabel_look {env : Env} {x : Str} : ∀ {names : List (Str × NameKind)} {k : NameKind},
    (names.map fun (n, k) => if (k == NameKind.free && env.scope.kind == .function && env.kindOf n == some .cell) then (n, NameKind.cell) else (n, k)).lookup x = some k →
      ∃ k0, names.lookup x = some k0 ∧ ((k0 = .free ∧ (k = .free ∨ k = .cell)) ∨ k = k0)
  | [], _, h => by simp at h
  | (n, k0) :: r, k, h => by
    have ih := @relabel_look env x r k
    have h : List.lookup x ((if (k0 == NameKind.free && env.scope.kind == .function && env.kindOf n == some .cell) = true then (n, NameKind.cell) else (n, k0)) :: r.map fun (n, k) => if (k == NameKind.free && env.scope.kind == .function && env.kindOf n == some .cell) then (n, NameKind.cell) else (n, k)) = some k := h
    by_cases hc : (k0 == NameKind.free && env.scope.kind == .function && env.kindOf n == some .cell) = true
    · rw [if_pos hc] at h
      have hk : k0 = .free := by
        rw [Bool.and_eq_true, Bool.and_eq_true] at hc
        simpa using hc.1.1
      rw [List.lookup_cons] at h ⊢
      cases hx : x == n with
      | true =>
        rw [hx] at h
        have h : some NameKind.cell = some k := h
        exact ⟨k0, rfl, .inl ⟨hk, .inr (Option.some.inj h).symm⟩⟩
      | false =>
        rw [hx] at h
        exact ih h
    · rw [if_neg hc] at h
      rw [List.lookup_cons] at h ⊢
      cases hx : x == n with
      | true =>
        rw [hx] at h
        have h : some k0 = some k := h
        exact ⟨k0, rfl, .inr (Option.some.inj h).symm⟩
      | false =>
        rw [hx] at h
        exact ih h
/-- where the names of a block stand in the frame around it: none, its own; some j, the frame's j-th -/
def srcSt (src : List (Option Nat)) (σ : St) : St := src.map fun o => o.bind fun j => (σ[j]?).bind id
def srcOf (oN : List Str) (scope : Scope) (N : List Str) : List (Option Nat) := N.map fun x => if scope.names.lookup x = some .free then oN.findIdx? (· == x) else none
/-- what is asked of a comprehension's scope: closed facts -/
structure CompSc (osc : Scope) (oN N : List Str) (src : List (Option Nat)) (scope : Scope) : Prop where
  kind : scope.kind = .function
  nocell : ∀ y ∈ scope.names, y.2 ≠ .cell
  locals : ∀ y ∈ scope.names, y.2 = .local → scope.names.lookup y.1 = some .local
  free : ∀ y ∈ scope.names, y.2 = .free → scope.names.lookup y.1 = some .free ∧ (osc.names.lookup y.1 = some .cell ∨ osc.names.lookup y.1 = some .free)
  src : srcOf oN scope N = src
  nd : N.Nodup
theorem CompSc.at_ {osc scope : Scope} {oN N : List Str} {src : List (Option Nat)} (S : CompSc osc oN N src scope) {i j : Nat} (h : src[i]? = some (some j)) :
    ∃ x, N[i]? = some x ∧ oN[j]? = some x ∧ (x, NameKind.free) ∈ scope.names := by
  rw [← S.src] at h
  unfold srcOf at h
  rw [List.getElem?_map] at h
  cases e : N[i]? with
  | none => rw [e] at h; cases h
  | some x =>
    rw [e] at h
    have h : some (if scope.names.lookup x = some .free then oN.findIdx? (· == x) else none) = some (some j) := h
    have h := Option.some.inj h
    by_cases hf : scope.names.lookup x = some .free
    · rw [if_pos hf] at h
      refine ⟨x, rfl, ?_, PySem.mem_of_lookup hf⟩
      obtain ⟨hlt, hp, _⟩ := List.findIdx?_eq_some_iff_getElem.mp h
      rw [List.getElem?_eq_getElem hlt]
      exact congrArg some (by simpa using hp)
    · rw [if_neg hf] at h; cases h
theorem comp_inv {X : Cx} {pins : List (Addr × Obj)} {σ : St} {H : Hp} {s s4 : Shared} {osc scope : Scope} {oN N : List Str} {src : List (Option Nat)} {fp : List Addr} {h1 : Heap} {tk : Nat} (I : Inv X pins σ H s) (S : CompSc osc oN N src scope) (hsc : X.env.scope = osc) (hXN : X.N = oN)
    (f2 : ∀ b ∈ fp, FpOk X pins H b)
    (hns : h1.Ns s.heap.objs.size fun _ => none) (keep : ∀ b o, s.heap.get? b = some o → h1.get? b = some o) (e4 : s4 = { s with heap := h1, toks := tk }) (hfp : ∀ b ∈ fp, b < s.heap.objs.size) :
    Inv (cxComp X N scope (clos X.env scope.names []) s.heap.objs.size fp s H) [] (srcSt src σ) H s4 := by
  subst e4
  have kdX : ∀ x, (x, NameKind.free) ∈ scope.names → X.env.kindOf x = some .cell ∨ X.env.kindOf x = some .free := fun x m => by
    have q := (S.free _ m rfl).2
    rw [← hsc] at q
    exact q
  have hfree : ∀ x, (x, NameKind.free) ∈ scope.names → ∃ c, X.env.cells.lookup x = some c := fun x m => I.ok.has x (kdX x m)
  have cs : ∀ x c, (clos X.env scope.names []).lookup x = some c → X.env.cells.lookup x = some c := fun x c e => clos_some scope.names [] x c hfree (fun y d q => by simp at q) e
  refine ⟨⟨I.ok.mod, S.kind, I.ok.glob, I.ok.blt, Nat.le_refl _, fun x y c h1 h2 => I.ok.inj x y c (cs x c h1) (cs y c h2), fun x hx => ?_, (fun _ _ h _ => nomatch h), I.ok.hd, I.ok.frames, .inl rfl, fun b hb => ⟨Nat.ne_of_lt (hfp b hb), fun x c e => (f2 b hb).2.2.2.2.1 x c (cs x c e)⟩,
      fun b o e => I.bs b o e, Nat.le_trans I.ok.bsz I.sz, fun b o e hb => ?_, fun b hb hb' => ?_, I.stack, I.stkFree⟩,
    rfl, I.bare, Un.kept keep, ⟨_, hns, fun i x v h1 h2 h3 => ?_⟩, fun x c e => ?_, I.hok.fresh (Nat.le_refl _), fun x c e => I.freeC x c (cs x c e), fun p hp => absurd (show p ∈ ([] : List (Addr × Obj)) from hp) (by simp), I.hok.kept keep, ?_⟩
  · have hx : (relabel scope X.env).names.lookup x = some .cell ∨ (relabel scope X.env).names.lookup x = some .free := hx
    have fr : (x, NameKind.free) ∈ scope.names := by
      rcases hx with hx | hx
      · obtain ⟨k0, e0, alt⟩ := relabel_look hx
        rcases alt with ⟨rfl, _⟩ | e
        · exact PySem.mem_of_lookup e0
        · exact absurd e.symm (S.nocell _ (PySem.mem_of_lookup e0))
      · obtain ⟨k0, e0, alt⟩ := relabel_look hx
        rcases alt with ⟨rfl, _⟩ | e
        · exact PySem.mem_of_lookup e0
        · rw [← e] at e0; exact PySem.mem_of_lookup e0
    exact clos_has scope.names [] x fr
  · rcases (f2 b hb).2.2.2.1 with z | z
    · exact I.ok.noex b o e z
    · exact absurd (Nat.lt_of_lt_of_le (Heap.lt_size e) (Nat.le_trans I.ok.bsz z)) (Nat.lt_irrefl _)
  · rcases List.mem_cons.mp (I.stkSub b hb') with e | z
    · exact (f2 b hb).2.1 e
    · exact (f2 b hb).2.2.1 z
  · have h1 : N[i]? = some x := h1
    have h2 : (src.map fun o => o.bind fun j => (σ[j]?).bind id)[i]? = some (some v) := h2
    rw [List.getElem?_map] at h2
    cases e : src[i]? with
    | none => rw [e] at h2; cases h2
    | some o =>
      rw [e] at h2
      cases o with
      | none => cases h2
      | some j =>
        have h2 : some ((σ[j]?).bind id) = some (some v) := h2
        have h2 := Option.some.inj h2
        have hσ : σ[j]? = some (some v) := by
          cases q : σ[j]? with
          | none => rw [q] at h2; cases h2
          | some z => rw [q] at h2; have h2 : z = some v := h2; rw [h2]
        obtain ⟨y, hy, hXj, fr⟩ := S.at_ e
        rw [h1] at hy
        cases hy
        rw [← hXN] at hXj
        obtain ⟨m, hn, hl⟩ := I.loc
        have kd := kdX x fr
        obtain ⟨u, ru, lk⟩ := hl j x v hXj hσ (kd.elim (fun q => .inr (.inl q)) fun q => .inr (.inr q))
        refine ⟨u, ru, ?_⟩
        rcases lk with ⟨kl, _⟩ | ⟨_, c, ec, ic⟩
        · rcases kd with q | q <;> (rw [kl] at q; cases q)
        · obtain ⟨c', ec'⟩ := clos_has (env := X.env) scope.names [] x fr
          have same := cs x c' ec'
          rw [ec] at same
          cases same
          obtain ⟨ob, ho, hd⟩ := ic
          refine .inr ⟨?_, c, ec', ob, keep _ _ ho, hd⟩
          rcases h3 with h3 | h3 | h3
          · obtain ⟨k0, e0, alt⟩ := relabel_look (show (relabel scope X.env).names.lookup x = some .local from h3)
            exfalso
            rw [(S.free _ fr rfl).1] at e0
            cases e0
            rcases alt with ⟨_, q | q⟩ | q <;> cases q
          · exact .inl h3
          · exact .inr h3
  · obtain ⟨v, o, ho, hd⟩ := I.cell x c (cs x c e)
    exact ⟨v, o, keep _ _ ho, hd⟩
  · show (src.map _).length = N.length
    rw [List.length_map, ← S.src]
    exact List.length_map _
/-- the turns of a comprehension whose list stands at D; W: the invariant by the turn, a measure, the items so far, the block's names, the heap -/
def CompRd (D : Addr) (J : It) (g : TG) (tf : TT) (te : TE) (Q : VK) (τ0 : St) (H0 : Hp) : Prop := ∃ W : Nat → Nat → List V → St → Hp → Prop, (∃ m, W 0 m [] τ0 H0) ∧
  ∀ i m ys τ H, W i m ys τ H → (J.stop i H ∧ Q (.ref D) H) ∨ (J.go i H ∧ ∃ N : List V → St → Hp → Prop, (∀ zs τ' H', N zs τ' H' → ∃ m', m' < m ∧ W (i + 1) m' zs τ' H') ∧ ∀ x H1, J.yld i H x H1 → g x τ H1 fun τ2 H2 => tf τ2 H2 fun b H3 =>
    if b = true then te τ2 H3 fun y H4 => H4 D = some (.lst ys) ∧ ys.length < sizeLine ∧ N (ys ++ [y]) τ2 (upd H4 D (.lst (ys ++ [y]))) else N ys τ2 H3)
/-- the reading of a comprehension: what it walks, its target, its tests, its element -/
def tComp (src : List (Option Nat)) (wi : TI) (g : TG) (tf : TT) (te : TE) : TE := fun σ H Q => wi σ H fun J H1 => ∀ D, H1 D = none → CompRd D J g tf te Q (srcSt src σ) (upd H1 D (.lst []))
/-- over a list that the turns leave as it is -/
theorem comp_over {K : PySem.W.Frag} {a D : Addr} {xs : List V} {g : TG} {tf : TT} {te : TE} {Q : VK} {τ0 : St} {H0 : Hp} (Pv : Nat → List V → St → Hp → Prop) (h0 : Pv 0 [] τ0 H0) (hl : ∀ i ys τ H, i ≤ xs.length → Pv i ys τ H → SqL K H a xs)
    (hs : ∀ i x ys τ H, xs[i]? = some x → Pv i ys τ H → g x τ H fun τ2 H2 => tf τ2 H2 fun b H3 => if b = true then te τ2 H3 fun y H4 => H4 D = some (.lst ys) ∧ ys.length < sizeLine ∧ Pv (i + 1) (ys ++ [y]) τ2 (upd H4 D (.lst (ys ++ [y]))) else Pv (i + 1) ys τ2 H3)
    (hd : ∀ ys τ H, Pv xs.length ys τ H → Q (.ref D) H) :
    CompRd D (Itl K a) g tf te Q τ0 H0 := by
  refine ⟨fun i m ys τ H => i ≤ xs.length ∧ m = xs.length - i ∧ Pv i ys τ H, ⟨_, Nat.zero_le _, rfl, h0⟩, ?_⟩
  rintro i m ys τ H ⟨hi, rfl, p⟩
  by_cases e : i = xs.length
  · subst e
    exact .inl ⟨⟨xs, hl _ _ _ _ hi p, Nat.le_refl _⟩, hd ys τ H p⟩
  · have hlt : i < xs.length := by omega
    have hx : xs[i]? = some xs[i] := List.getElem?_eq_getElem hlt
    refine .inr ⟨⟨xs, xs[i], hl _ _ _ _ hi p, hx⟩, fun zs τ' H' => Pv (i + 1) zs τ' H', fun zs τ' H' n => ⟨xs.length - (i + 1), by omega, hlt, rfl, n⟩, ?_⟩
    rintro x H1 ⟨rfl, hy⟩
    exact hs i x ys τ H1 (hy xs (hl _ _ _ _ hi p)) p
/-- over a range -/
theorem comp_range {lo : Int} {n : Nat} {D : Addr} {g : TG} {tf : TT} {te : TE} {Q : VK} {τ0 : St} {H0 : Hp} (Pv : Nat → List V → St → Hp → Prop) (h0 : Pv 0 [] τ0 H0)
    (hs : ∀ i ys τ H, i < n → Pv i ys τ H → g (.int (lo + i)) τ H fun τ2 H2 => tf τ2 H2 fun b H3 => if b = true then te τ2 H3 fun y H4 => H4 D = some (.lst ys) ∧ ys.length < sizeLine ∧ Pv (i + 1) (ys ++ [y]) τ2 (upd H4 D (.lst (ys ++ [y]))) else Pv (i + 1) ys τ2 H3)
    (hd : ∀ ys τ H, Pv n ys τ H → Q (.ref D) H) :
    CompRd D (Itr lo n) g tf te Q τ0 H0 := by
  refine ⟨fun i m ys τ H => i ≤ n ∧ m = n - i ∧ Pv i ys τ H, ⟨_, Nat.zero_le _, rfl, h0⟩, ?_⟩
  rintro i m ys τ H ⟨hi, rfl, p⟩
  by_cases e : i = n
  · subst e
    exact .inl ⟨Nat.le_refl _, hd ys τ H p⟩
  · have hlt : i < n := by omega
    refine .inr ⟨hlt, fun zs τ' H' => Pv (i + 1) zs τ' H', fun zs τ' H' q => ⟨n - (i + 1), by omega, hlt, rfl, q⟩, ?_⟩
    rintro x H1 ⟨rfl, rfl⟩
    exact hs i ys τ H1 hlt p
section
variable {X : Cx} {pins : List (Addr × Obj)} {σ : St} {H : Hp} {s : Shared} {osc scope : Scope} {oN N : List Str} {src : List (Option Nat)} {tg iter elt : Expr} {ifs : List Expr} {pos : Pos} {g : TG} {tf : TT} {te : TE} {wi : TI}
theorem comp_block {J : It} {fp : List Addr} {it : Addr} {tn : Nat → Heap → Prop} {Q : VK} {E : Value → Shared → Prop} (hc : X.calm = true) (S : CompSc osc oN N src scope) (hsc : X.env.scope = osc) (hXN : X.N = oN)
    (hg : ∀ cl C fp s H, PG (cxComp X N scope cl C fp s H) tg g) (hf : ∀ cl C fp s H, PF (cxComp X N scope cl C fp s H) ifs tf) (he : ∀ cl C fp s H, PE (cxComp X N scope cl C fp s H) elt te)
    (I : Inv X pins σ H s) (T : Turn X.prog X.w X.K tg J fp it tn) (st : tn 0 s.heap) (f2 : ∀ b ∈ fp, FpOk X pins H b)
    (rd : ∀ D, H D = none → CompRd D J g tf te Q (srcSt src σ) (upd H D (.lst [])))
    {RR : Value → Addr → Result → Shared → Prop}
    (hRR : ∀ D C s' H', Inv X pins σ H' s' → (∃ m, s'.heap.Ns C m) → H' C = none → s.heap.objs.size ≤ C → Q (.ref D) H' → RR (.ref D) C (.ok .next) s') :
    wpAny (model X.prog X.w) X.A (newList []) (fun acc s₃ => wpAny (model X.prog X.w) X.A (newFunctionEnv scope X.env.globals (clos X.env scope.names []) [] X.env.qual none .none (some X.env)) (fun cenv s₄ =>
      codeAny (model X.prog X.w) X.A (.compStart (.ListComp elt [⟨tg, iter, ifs, 0⟩] scope pos) 0 (.ref it) acc { cenv with scope := relabel scope X.env }) (RR acc cenv.locals) s₄) E s₃) E s := by
  have blt : ∀ b ∈ fp, b < s.heap.objs.size := fun b hb => by
    obtain ⟨o, e, _⟩ := T.obj _ _ st b hb
    exact Heap.lt_size e
  refine wpAny_newObj_type (hd := by size_fits) ?_
  have hD : H s.heap.objs.size = none := I.fresh
  have I3 := I.lnew (ys := []) (its := []) (t' := s.toks) .nil (Nat.zero_le _)
  obtain ⟨W, ⟨m0, w0⟩, turn⟩ := rd _ hD
  generalize hH3 : upd H s.heap.objs.size (.lst []) = H3 at I3 w0
  generalize hs3 : ({ s with heap := s.heap.push { cls := .type "list", data := .seq ([] : List Value).toArray }, toks := s.toks } : Shared) = s3 at I3
  have sz3 : s3.heap.objs.size = s.heap.objs.size + 1 := by rw [← hs3]; exact Heap.size_push ..
  have f3 : ∀ b ∈ fp, FpOk X pins H3 b := fun b hb => ⟨by rw [← hH3, upd_ne (Nat.ne_of_lt (blt b hb))]; exact (f2 b hb).1, (f2 b hb).2⟩
  have st3 : tn 0 s3.heap := T.keep _ _ _ st fun b _ o e => by rw [← hs3]; exact Heap.get?_push_of_some _ e
  refine wpAny_newFunctionEnv S.nocell (by intro y hy; simp at hy) (fun h1 hns1 hsb1 => ?_) S.kind
  have keep : ∀ b o, s3.heap.get? b = some o → h1.get? b = some o := fun b o e => hsb1.extBut b o (Nat.ne_of_lt (Heap.lt_size e)) (Heap.get?_push_of_some _ e)
  have hns : h1.Ns s3.heap.objs.size fun _ => none := hns1
  have J3 := comp_inv (tk := s3.toks + ([] : List (Str × Value)).length) I3 S hsc hXN f3 hns keep rfl (fun b hb => by rw [sz3]; exact Nat.lt_succ_of_lt (blt b hb))
  have st4 : tn 0 h1 := T.keep _ _ _ st3 fun b _ o e => keep b o e
  have go : codeAny (model X.prog X.w) X.A (.compLoop (.ListComp elt [⟨tg, iter, ifs, 0⟩] scope pos) 0 (.ref it) (.ref s.heap.objs.size) (compEnvC scope (clos X.env scope.names []) s3.heap.objs.size X.env)) (RR (.ref s.heap.objs.size) s3.heap.objs.size)
      { s3 with heap := h1, toks := s3.toks + ([] : List (Str × Value)).length } := by
    refine comp_loop (X := cxComp X N scope (clos X.env scope.names []) s3.heap.objs.size fp s3 H3) hc rfl T (hg _ _ _ _ _) (hf _ _ _ _ _) (he _ _ _ _ _) (fun b hb => ⟨?_, ?_, .inl hb, ?_, fun p hp => absurd (show p ∈ ([] : List (Addr × Obj)) from hp) (by simp)⟩)
      W (fun H' => Q (.ref s.heap.objs.size) H') turn (fun s' τ' H' I' fr' fin => ?_) J3 st4 (fun b hb => (f3 b hb).1) w0
    · exact Nat.ne_of_lt (by rw [sz3]; exact Nat.lt_succ_of_lt (blt b hb))
    · intro hb'
      rcases List.mem_cons.mp (I3.stkSub b hb') with e | z
      · exact (f3 b hb).2.1 e
      · exact (f3 b hb).2.2.1 z
    · exact fun x c e => (J3.ok.exf b hb).2 x c e
    · obtain ⟨m, hm, _⟩ := I'.loc
      refine hRR _ _ s' H' (I3.call' I'.os I'.base I'.hok I'.bare fun b hb => ⟨(f3 b hb).2.2.2.1, (f3 b hb).2.1, (f3 b hb).2.2.2.2.1, (f3 b hb).2.2.2.2.2⟩) ⟨m, hm⟩ I'.free (by rw [sz3]; exact Nat.le_succ _) fin
  exact codeAny_compStart_list go (T.self _ 0 _ _ _ st4 go)
/-- the block's frame goes -/
theorem comp_gone {H' : Hp} {s' : Shared} {C : Addr} {h' : Heap} (I : Inv X pins σ H s) (I' : Inv X pins σ H' s') (hC : H' C = none) (hz : s.heap.objs.size ≤ C) (hs : Heap.SameBut C s'.heap h') : Inv X pins σ H' { s' with heap := h' } := by
  refine I'.turned (t' := s'.toks) (it := C) (fun b o hb e => hs.extBut b o hb e) hC (fun e => ?_) (.inr (Nat.le_trans I.sz hz)) (fun x c e q => ?_) fun p hp e => ?_
  · exact absurd (Nat.lt_of_lt_of_le I.lt hz) (by rw [e]; exact Nat.lt_irrefl _)
  · obtain ⟨v, o, ho, _⟩ := I.cell x c e
    exact absurd (Nat.lt_of_lt_of_le (Heap.lt_size ho) hz) (by rw [q]; exact Nat.lt_irrefl _)
  · exact absurd (Nat.lt_of_lt_of_le (Heap.lt_size (I.pin p hp).1) hz) (by rw [e]; exact Nat.lt_irrefl _)
/-- [elt for tg in iter if ..] as a value -/
theorem pe_comp (hc : X.calm = true) (S : CompSc osc oN N src scope) (hsc : X.env.scope = osc) (hXN : X.N = oN) (hi : PI X tg iter wi)
    (hg : ∀ cl C fp s H, PG (cxComp X N scope cl C fp s H) tg g) (hf : ∀ cl C fp s H, PF (cxComp X N scope cl C fp s H) ifs tf) (he : ∀ cl C fp s H, PE (cxComp X N scope cl C fp s H) elt te)
    (hs : ∀ x, foldedSetIterable iter X.env x = pure x := by intro _; rfl) : PE X (.ListComp elt [⟨tg, iter, ifs, 0⟩] scope pos) (tComp src wi g tf te) := by
  intro pins s σ H Q I h
  have hclos : closureFor scope X.env = pure (clos X.env scope.names []) := closureFor_eq fun x m => I.ok.has x (by have q := (S.free _ m rfl).2; rw [← hsc] at q; exact q)
  rw [eval_ListComp]
  refine wpAny_comprehension_free (use := none) rfl hs hclos S.kind S.locals (thn (hi pins s σ H _ I h) fun v s1 h1 => thn h1 fun itv s2 h2 => ?_)
  obtain ⟨it, fp, tn, J, H2, e, I2, T, st2, f2, rd⟩ := h2
  subst e
  refine comp_block (RR := fun acc C => compPost (model X.prog X.w) X.A X.xe none (EP X pins σ Q) acc C) hc S hsc hXN hg hf he I2 T st2 f2 rd fun D C s' H' I' hm hC hz q => ?_
  obtain ⟨m, hm⟩ := hm
  exact ⟨m, hm, fun h' hs' => ⟨.ref D, H', comp_gone I2 I' hC hz hs', rfl, q⟩⟩
/-- name = [..], the stores exchanged -/
theorem ps_comp {y : Str} {i : Nat} {py spos : Pos} (hN : X.N.Nodup) (hyi : X.N[i]? = some y) (hy : X.env.scope.names.lookup y = some .local) (hc : X.calm = true) (S : CompSc osc oN N src scope) (hsc : X.env.scope = osc) (hXN : X.N = oN) (hi : PI X tg iter wi)
    (hg : ∀ cl C fp s H, PG (cxComp X N scope cl C fp s H) tg g) (hf : ∀ cl C fp s H, PF (cxComp X N scope cl C fp s H) ifs tf) (he : ∀ cl C fp s H, PE (cxComp X N scope cl C fp s H) elt te)
    (hs : ∀ x, foldedSetIterable iter X.env x = pure x := by intro _; rfl)
    (hsw : swapsWith (.ListComp elt [⟨tg, iter, ifs, 0⟩] scope pos) (some (.Name y py)) spos.line X.env = pure true := by rfl) :
    PS X (.Assign [.Name y py] (.ListComp elt [⟨tg, iter, ifs, 0⟩] scope pos) spos) (tAsg (tComp src wi g tf te) (gName i)) := by
  intro pins s σ H De I h
  have hclos : closureFor scope X.env = pure (clos X.env scope.names []) := closureFor_eq fun x m => I.ok.has x (by have q := (S.free _ m rfl).2; rw [← hsc] at q; exact q)
  rw [exec_Assign_Name_used _ _ _ _ hsw]
  refine wpAny_bind (wpAny_standAt (wpAny_bind ?_))
  show wpAny _ X.A (do let _ ← comprehension (.ListComp elt [⟨tg, iter, ifs, 0⟩] scope pos) scope X.env _ (newList []) false (eval iter X.env) (some (assign (.Name y py) X.env))) _ _ s
  refine wpAny_bind (wpAny_mono (wpAny_comprehension_free (use := some (assign (.Name y py) X.env)) (Q := fun _ s' => SP X pins De .next s') rfl hs hclos S.kind S.locals
    (thn (hi pins s σ H _ I h) fun v s1 h1 => thn h1 fun itv s2 h2 => ?_)) (fun _ s' hq => wpAny_pure (wpAny_pure hq)) fun _ _ e => e)
  obtain ⟨it, fp, tn, J, H2, e, I2, T, st2, f2, rd⟩ := h2
  subst e
  refine comp_block (Q := fun x H1 => gName i x σ H1 De.nx) (RR := fun acc C => compPost (model X.prog X.w) X.A X.xe (some (assign (.Name y py) X.env)) (fun _ s' => SP X pins De .next s') acc C) hc S hsc hXN hg hf he I2 T st2 f2 rd fun D C s' H' I' hm hC hz q => ?_
  obtain ⟨m, hm⟩ := hm
  obtain ⟨o, es, ep, ho, hd, r⟩ := id hm
  have nL : C ≠ X.env.locals := fun e => absurd (Nat.lt_of_lt_of_le I2.lt hz) (by rw [e]; exact Nat.lt_irrefl _)
  have nF : C ∉ X.fs := I2.nofs hz
  have I9 : Inv X (pins ++ [(C, o)]) σ H' s' := I'.pins_of fun p hp => by
    rcases List.mem_append.mp hp with hp | hp
    · exact I'.pin p (List.mem_append_right _ hp)
    · rw [List.mem_singleton] at hp
      subst hp
      exact ⟨ho, hC, nL, nF, fun v => by rw [hd]; exact fun z => nomatch z⟩
  show wpAny _ X.A (assign (.Name y py) X.env (.ref D)) _ _ s'
  refine thn (pg_name (i := i) hN hyi (.inl hy) (.inr hy) _ s' σ H' (.ref D) (.ref D) De.nx I9 rfl q) fun _ s'' ⟨σ2, H2', I10, q10⟩ => ?_
  have pinC := I10.pin (C, o) (List.mem_append_right _ (List.mem_append_right _ (List.mem_singleton.mpr rfl)))
  refine ⟨m, ⟨o, es, ep, pinC.1, hd, r⟩, fun h' hs' => ⟨σ2, H2', ?_, q10⟩⟩
  have I11 : Inv X pins σ2 H2' s'' := I10.pins_of fun p hp => I10.pin p (List.mem_append_right _ (List.mem_append_left _ hp))
  refine I11.turned (t' := s''.toks) (it := C) (fun b o hb e => hs'.extBut b o hb e) pinC.2.1 nL (.inr (Nat.le_trans I2.sz hz)) (fun x c e q => ?_) fun p hp e => ?_
  · obtain ⟨v, o, ho, _⟩ := I2.cell x c e
    exact absurd (Nat.lt_of_lt_of_le (Heap.lt_size ho) hz) (by rw [q]; exact Nat.lt_irrefl _)
  · exact absurd (Nat.lt_of_lt_of_le (Heap.lt_size (I2.pin p hp).1) hz) (by rw [e]; exact Nat.lt_irrefl _)
end
/-! ### rules within a block: their readings speak of the frame around it -/
section
variable {X : Cx} {N : List Str} {scope : Scope} {cl : List (Str × Addr)} {C : Addr} {fp : List Addr} {s : Shared} {H : Hp}
theorem cix_tup : IxR (cxComp X N scope cl C fp s H) (rIxT X.K) := ix_tup
theorem cix_list : IxR (cxComp X N scope cl C fp s H) (rIxL X.K) := ix_list
theorem cop_in : OpR (cxComp X N scope cl C fp s H) (compareOp .In) (rIn X.K false) := op_in_seq
theorem cop_notIn : OpR (cxComp X N scope cl C fp s H) (compareOp .NotIn) (rIn X.K true) := op_notIn_seq
theorem ccall_list : CallR (cxComp X N scope cl C fp s H) (.type "list") (fun xs H Q => ∃ p ys, xs = [.ref p] ∧ (SqL X.K H p ys ∨ SqT X.K H p ys) ∧ ∀ l, H l = none → Q (.ref l) (upd H l (.lst ys))) := call_list_of
theorem ccall_len : CallR (cxComp X N scope cl C fp s H) (.builtin "len") (fun xs H Q => ∃ p ys, xs = [.ref p] ∧ (SqL X.K H p ys ∨ SqT X.K H p ys) ∧ Q (.int ys.length) H) := call_len_seq
end
end L2

set_option linter.all false
/-! ## data: what a value stands for, lists and tuples read through the heap -/
namespace Ws
open PySem L2
inductive Dat where
  | non | bl (b : Bool) | int (i : Int) | str (x : Str) | tup (ds : List Dat) | lst (ds : List Dat)
mutual
inductive DAt (G : Hp) : V → Dat → Prop where
  | non : DAt G .non .non
  | bl (b : Bool) : DAt G (.bl b) (.bl b)
  | int (i : Int) : DAt G (.int i) (.int i)
  | str (x : Str) : DAt G (.str x) (.str x)
  | tup {a : Addr} {vs : List V} {ds : List Dat} : G a = some (.tup vs) → DsAt G vs ds → DAt G (.ref a) (.tup ds)
  | lst {a : Addr} {vs : List V} {ds : List Dat} : G a = some (.lst vs) → DsAt G vs ds → DAt G (.ref a) (.lst ds)
inductive DsAt (G : Hp) : List V → List Dat → Prop where
  | nil : DsAt G [] []
  | cons {v : V} {d : Dat} {vs : List V} {ds : List Dat} : DAt G v d → DsAt G vs ds → DsAt G (v :: vs) (d :: ds)
end
mutual
theorem DAt.mono {G H : Hp} (s : Same G H) : ∀ {v : V} {d : Dat}, DAt G v d → DAt H v d
  | _, _, .non => .non
  | _, _, .bl b => .bl b
  | _, _, .int i => .int i
  | _, _, .str x => .str x
  | _, _, .tup e h => .tup (s _ _ e) (DsAt.mono s h)
  | _, _, .lst e h => .lst (s _ _ e) (DsAt.mono s h)
theorem DsAt.mono {G H : Hp} (s : Same G H) : ∀ {vs : List V} {ds : List Dat}, DsAt G vs ds → DsAt H vs ds
  | _, _, .nil => .nil
  | _, _, .cons h t => .cons (DAt.mono s h) (DsAt.mono s t)
end
theorem DsAt.append {G : Hp} : ∀ {vs ws : List V} {ds es : List Dat}, DsAt G vs ds → DsAt G ws es → DsAt G (vs ++ ws) (ds ++ es)
  | _, _, _, _, .nil, h => h
  | _, _, _, _, .cons d t, h => .cons d (DsAt.append t h)
theorem DsAt.length {G : Hp} : ∀ {vs : List V} {ds : List Dat}, DsAt G vs ds → vs.length = ds.length
  | _, _, .nil => rfl
  | _, _, .cons _ t => congrArg (· + 1) t.length
theorem DsAt.split {G : Hp} : ∀ {ds es : List Dat} {vs : List V}, DsAt G vs (ds ++ es) → ∃ ws us, vs = ws ++ us ∧ DsAt G ws ds ∧ DsAt G us es
  | [], _, vs, h => ⟨[], vs, rfl, .nil, h⟩
  | d :: ds, es, _, .cons h t => by
    obtain ⟨ws, us, rfl, h1, h2⟩ := DsAt.split (ds := ds) t
    exact ⟨_ :: ws, us, rfl, .cons h h1, h2⟩
theorem DsAt.last {G : Hp} {ds : List Dat} {d : Dat} {vs : List V} (h : DsAt G vs (ds ++ [d])) : ∃ ws v, vs = ws ++ [v] ∧ DsAt G ws ds ∧ DAt G v d := by
  obtain ⟨ws, us, rfl, h1, h2⟩ := DsAt.split h
  cases h2 with
  | cons hv t => cases t with | nil => exact ⟨ws, _, rfl, h1, hv⟩
theorem DsAt.take {G : Hp} : ∀ {vs : List V} {ds : List Dat} (n : Nat), DsAt G vs ds → DsAt G (vs.take n) (ds.take n)
  | _, _, 0, _ => .nil
  | _, _, _ + 1, .nil => .nil
  | _, _, n + 1, .cons h t => .cons h (DsAt.take n t)
theorem DsAt.drop {G : Hp} : ∀ {vs : List V} {ds : List Dat} (n : Nat), DsAt G vs ds → DsAt G (vs.drop n) (ds.drop n)
  | _, _, 0, h => h
  | _, _, _ + 1, .nil => .nil
  | _, _, n + 1, .cons _ t => DsAt.drop n t
theorem DsAt.reverse {G : Hp} : ∀ {vs : List V} {ds : List Dat}, DsAt G vs ds → DsAt G vs.reverse ds.reverse
  | _, _, .nil => .nil
  | _, _, .cons h t => by
    rw [List.reverse_cons, List.reverse_cons]
    exact DsAt.append (DsAt.reverse t) (.cons h .nil)
theorem DsAt.get {G : Hp} : ∀ {vs : List V} {ds : List Dat} {i : Nat} {d : Dat}, DsAt G vs ds → ds[i]? = some d → ∃ v, vs[i]? = some v ∧ DAt G v d
  | _, _, _, _, .nil, e => by simp at e
  | _, _, 0, _, .cons h _, e => by simp at e; subst e; exact ⟨_, rfl, h⟩
  | _, _, i + 1, _, .cons _ t, e => by
    obtain ⟨v, h1, h2⟩ := DsAt.get (i := i) t (by simpa using e)
    exact ⟨v, by simpa using h1, h2⟩
theorem DAt.tup_inv {G : Hp} {v : V} {ds : List Dat} (h : DAt G v (.tup ds)) : ∃ a vs, v = .ref a ∧ G a = some (.tup vs) ∧ DsAt G vs ds := by
  cases h with | tup e t => exact ⟨_, _, rfl, e, t⟩
theorem DAt.lst_inv {G : Hp} {v : V} {ds : List Dat} (h : DAt G v (.lst ds)) : ∃ a vs, v = .ref a ∧ G a = some (.lst vs) ∧ DsAt G vs ds := by
  cases h with | lst e t => exact ⟨_, _, rfl, e, t⟩
theorem DAt.str_inv {G : Hp} {v : V} {x : Str} (h : DAt G v (.str x)) : v = .str x := by cases h; rfl
theorem DAt.int_inv {G : Hp} {v : V} {x : Int} (h : DAt G v (.int x)) : v = .int x := by cases h; rfl
/-- the heap without one place -/
def del (H : Hp) (p : Addr) : Hp := fun b => if b = p then none else H b
theorem del_at {H : Hp} {p : Addr} : del H p p = none := by unfold del; rw [if_pos rfl]
theorem del_ne {H : Hp} {p b : Addr} (h : b ≠ p) : del H p b = H b := by unfold del; rw [if_neg h]
theorem del_same {H : Hp} {p : Addr} : Same (del H p) H := fun b o e => by
  by_cases h : b = p
  · rw [h, del_at] at e; cases e
  · rwa [del_ne h] at e
theorem same_del {G H : Hp} {p : Addr} (s : Same G H) (h : G p = none) : Same G (del H p) := fun b o e => by
  rw [del_ne (ne_of_none e h)]; exact s b o e
theorem same_new {H : Hp} {p : Addr} (h : H p = none) (o : HO) : Same H (upd H p o) := fun b u q => by rw [upd_ne (ne_of_none q h)]; exact q
theorem same_upd {G H : Hp} {p : Addr} (s : Same G H) (h : G p = none) (o : HO) : Same G (upd H p o) := fun b u q => by rw [upd_ne (ne_of_none q h)]; exact s b u q
theorem del_upd {H : Hp} {p : Addr} {o : HO} : Same (del H p) (upd H p o) := same_upd del_same del_at o
mutual
def Dat.wt : Dat → Nat
  | .tup ds => 1 + wts ds
  | .lst ds => 1 + wts ds
  | _ => 1
def wts : List Dat → Nat
  | [] => 0
  | d :: r => d.wt + wts r
end
theorem Dat.wt_pos (d : Dat) : 1 ≤ d.wt := by cases d <;> simp only [Dat.wt] <;> omega
theorem wts_append : ∀ (xs ys : List Dat), wts (xs ++ ys) = wts xs + wts ys
  | [], ys => by simp [wts]
  | x :: xs, ys => by
    have h := wts_append xs ys
    show x.wt + wts (xs ++ ys) = x.wt + wts xs + wts ys
    omega
theorem length_wts : ∀ (xs : List Dat), xs.length ≤ wts xs
  | [] => Nat.le_refl _
  | x :: xs => by
    have h := length_wts xs
    have := x.wt_pos
    show xs.length + 1 ≤ x.wt + wts xs
    omega
/-! ## sentences -/
inductive T where
  | mark (i : Int)
  | un (w : List Str) (t : T)
  | bin (w : List Str) (t u : T)
def T.dat : T → Dat
  | .mark i => .tup [.str "mark", .int i]
  | .un w t => .tup (w.map .str ++ [t.dat])
  | .bin w t u => .tup (w.map .str ++ [t.dat, u.dat])
def T.kids : T → List T
  | .mark _ => []
  | .un _ t => [t]
  | .bin _ t u => [t, u]
def T.parts : T → List T
  | .mark i => [.mark i]
  | .un w t => t.parts ++ [.un w t]
  | .bin w t u => t.parts ++ u.parts ++ [.bin w t u]
/-- the words that a sentence begins with -/
def Head (w : List Str) : Prop := (∃ s : Str, w = [s] ∧ (s = "not" ∨ s = "and" ∨ s = "or")) ∨ (∃ s x : Str, w = [s, x] ∧ s ≠ "mark" ∧ s ≠ "not" ∧ s ≠ "and" ∧ s ≠ "or")
def T.ok : T → Prop
  | .mark _ => True
  | .un w t => Head w ∧ t.ok
  | .bin w t u => Head w ∧ t.ok ∧ u.ok
theorem Head.len {w : List Str} (h : Head w) : w.length ≤ 2 := by
  rcases h with ⟨s, rfl, _⟩ | ⟨s, x, rfl, _⟩
  · exact Nat.le_succ _
  · exact Nat.le_refl _
theorem T.parts_kids (t : T) : t.parts = t.kids.flatMap T.parts ++ [t] := by
  cases t <;> simp [T.parts, T.kids]
theorem T.parts_pos (t : T) : 1 ≤ t.parts.length := by rw [T.parts_kids, List.length_append]; exact Nat.le_add_left _ _
theorem T.ok_kids {t : T} (h : t.ok) : ∀ k ∈ t.kids, k.ok := by
  cases t with
  | mark i => intro k hk; cases hk
  | un w t => intro k hk; simp only [T.kids, List.mem_singleton] at hk; subst hk; exact h.2
  | bin w t u =>
    intro k hk
    simp only [T.kids, List.mem_cons, List.not_mem_nil, or_false] at hk
    rcases hk with rfl | rfl
    · exact h.2.1
    · exact h.2.2
/-- how many parts lie in a pile -/
def cnt : List T → Nat
  | [] => 0
  | t :: r => t.parts.length + cnt r
theorem cnt_append : ∀ (xs ys : List T), cnt (xs ++ ys) = cnt xs + cnt ys
  | [], ys => by simp [cnt]
  | x :: xs, ys => by
    have h := cnt_append xs ys
    show x.parts.length + cnt (xs ++ ys) = x.parts.length + cnt xs + cnt ys
    omega
theorem cnt_kids (t : T) : t.parts.length = cnt t.kids + 1 := by
  cases t <;> simp [T.parts, T.kids, cnt] <;> omega
theorem le_cnt : ∀ (ts : List T), ts.length ≤ cnt ts
  | [] => Nat.le_refl _
  | t :: r => by
    have h := le_cnt r
    have := t.parts_pos
    show r.length + 1 ≤ t.parts.length + cnt r
    omega
/-- the parts found from behind, with a pile still waiting -/
def back (ts : List T) : List T := ts.reverse.flatMap fun t => t.parts.reverse
theorem back_snoc (ts : List T) (t : T) : back (ts ++ [t]) = t :: back (ts ++ t.kids) := by
  have e : t.parts.reverse = t :: (t.kids.reverse.flatMap fun k => k.parts.reverse) := by
    cases t <;> simp [T.parts, T.kids]
  unfold back
  rw [List.reverse_append, List.reverse_append, List.flatMap_append, List.flatMap_append]
  simp [e]
theorem back_one (t : T) : back [t] = t.parts.reverse := by simp [back]
theorem back_length (ts : List T) : (back ts).length = cnt ts := by
  induction ts with
  | nil => rfl
  | cons t r ih =>
    have e : back (t :: r) = back r ++ back [t] := by simp [back]
    rw [e, List.length_append, ih, back_one, List.length_reverse]
    show _ = t.parts.length + cnt r
    omega
/-! ### sizes -/
theorem wts_strs : ∀ (w : List Str), wts (w.map .str) = w.length
  | [] => rfl
  | x :: w => by
    have h := wts_strs w
    show (Dat.str x).wt + wts (w.map .str) = w.length + 1
    rw [h]; simp only [Dat.wt]; omega
theorem T.wt_le : ∀ {t : T}, t.ok → t.dat.wt ≤ 3 * t.parts.length
  | .mark i, _ => by simp [T.dat, T.parts, Dat.wt, wts]
  | .un w t, h => by
    have q := T.wt_le h.2
    have l := h.1.len
    simp only [T.dat, T.parts, Dat.wt, wts_append, wts_strs, wts, List.length_append, List.length_singleton]
    omega
  | .bin w t u, h => by
    have q := T.wt_le h.2.1
    have q' := T.wt_le h.2.2
    have l := h.1.len
    simp only [T.dat, T.parts, Dat.wt, wts_append, wts_strs, wts, List.length_append, List.length_singleton]
    omega
theorem T.mem_parts : ∀ {t p : T}, t.ok → p ∈ t.parts → p.ok ∧ p.parts.length ≤ t.parts.length
  | .mark i, p, h, m => by
    simp only [T.parts, List.mem_singleton] at m
    subst m
    exact ⟨h, Nat.le_refl _⟩
  | .un w t, p, h, m => by
    have m : p ∈ t.parts ++ [.un w t] := m
    rcases List.mem_append.mp m with m | m
    · have q := T.mem_parts h.2 m
      refine ⟨q.1, Nat.le_trans q.2 ?_⟩
      simp [T.parts]
    · rw [List.mem_singleton] at m
      subst m
      exact ⟨h, Nat.le_refl _⟩
  | .bin w t u, p, h, m => by
    have m : p ∈ t.parts ++ u.parts ++ [.bin w t u] := m
    have e : (T.bin w t u).parts.length = t.parts.length + u.parts.length + 1 := by simp [T.parts]; omega
    rcases List.mem_append.mp m with m | m
    · rcases List.mem_append.mp m with m | m
      · have q := T.mem_parts h.2.1 m
        exact ⟨q.1, by omega⟩
      · have q := T.mem_parts h.2.2 m
        exact ⟨q.1, by omega⟩
    · rw [List.mem_singleton] at m
      subst m
      exact ⟨h, Nat.le_refl _⟩
theorem wts_le {b : Nat} : ∀ (ts : List T), (∀ p ∈ ts, p.dat.wt ≤ b) → wts (ts.map T.dat) ≤ ts.length * b
  | [], _ => Nat.zero_le _
  | t :: r, h => by
    have q := wts_le r fun p m => h p (List.mem_cons_of_mem _ m)
    have q1 := h t List.mem_cons_self
    show t.dat.wt + wts (r.map T.dat) ≤ (r.length + 1) * b
    rw [Nat.succ_mul]
    omega
theorem T.due_le {t : T} (h : t.ok) {n : Nat} (hn : t.parts.length ≤ n) : wts (t.parts.map T.dat) ≤ n * (3 * n) := by
  have q := wts_le (b := 3 * n) t.parts fun p m => Nat.le_trans (T.wt_le (T.mem_parts h m).1) (Nat.mul_le_mul_left 3 (Nat.le_trans (T.mem_parts h m).2 hn))
  exact Nat.le_trans q (Nat.mul_le_mul_right _ hn)
/-- what a pile holds for a sentence: it, and its parts in order -/
def item (t : T) : Dat := .tup [t.dat, .lst (t.parts.map T.dat)]
end Ws

/-! ## words and small facts -/
namespace Ws
open PySem L2
theorem at0 {x : V} {r : List V} : atI (x :: r) (0 : Int) = some x := by
  have h : (x :: r)[0]? = some x := rfl
  exact atI_nat (j := 0) h
theorem at1 {x y : V} {r : List V} : atI (x :: y :: r) (1 : Int) = some y := by
  have h : (x :: y :: r)[1]? = some y := rfl
  exact atI_nat (j := 1) h
theorem line_le {n : Nat} (h : n ≤ 16000000) : n ≤ sizeLine := Nat.le_trans h (by decide)
theorem line_lt {n : Nat} (h : n ≤ 16000000) : n < sizeLine := Nat.lt_of_le_of_lt h (by decide)
theorem nowhole {xs : List V} {k : Nat} {hi : Option Int} (h : 0 < k) (h' : 0 < xs.length) : ¬ (HT.sIx xs.length 0 (some (k : Int)) = 0 ∧ HT.sIx xs.length xs.length hi = xs.length) := fun c => by
  have := c.1
  rw [HT.sIx_nat] at this
  omega
theorem last_at {α : Type} (xs : List α) (v : α) : (xs ++ [v])[(xs ++ [v]).length - 1]? = some v := by simp
theorem bList : bootBuiltins "list" = some (.type "list") := by decide +kernel
theorem bTuple : bootBuiltins "tuple" = some (.type "tuple") := by decide +kernel
theorem bInt : bootBuiltins "int" = some (.type "int") := by decide +kernel
theorem bBool : bootBuiltins "bool" = some (.type "bool") := by decide +kernel
theorem bStr : bootBuiltins "str" = some (.type "str") := by decide +kernel
theorem bIs : bootBuiltins "isinstance" = some (.builtin "isinstance") := by decide +kernel
theorem bSum : bootBuiltins "sum" = some (.builtin "sum") := by decide +kernel
structure Blt (mg : Str → Option Value) : Prop where
  list : mg "list" = none
  tuple : mg "tuple" = none
  int : mg "int" = none
  bool : mg "bool" = none
  str : mg "str" = none
  len : mg "len" = none
  isinst : mg "isinstance" = none
  sum : mg "sum" = none
  range : mg "range" = none
  min : mg "min" = none
  max : mg "max" = none
section
variable {K : PySem.W.Frag}
theorem kLL : PySem.W.kitAny K (.type "list") [.type "list", .type "tuple"] = some true := by kernel_rfl
theorem kTL : PySem.W.kitAny K (.type "tuple") [.type "list", .type "tuple"] = some true := by kernel_rfl
theorem kIL : PySem.W.kitAny K (.type "int") [.type "list", .type "tuple"] = some false := by kernel_rfl
theorem kSL : PySem.W.kitAny K (.type "str") [.type "list", .type "tuple"] = some false := by kernel_rfl
theorem kBL : PySem.W.kitAny K (.type "bool") [.type "list", .type "tuple"] = some false := by kernel_rfl
theorem kNL : PySem.W.kitAny K (.type "NoneType") [.type "list", .type "tuple"] = some false := by kernel_rfl
theorem o_ll : PySem.W.kitOne K (.type "list") (.type "list") = some true := by kernel_rfl
theorem o_lt : PySem.W.kitOne K (.type "list") (.type "tuple") = some false := by kernel_rfl
theorem o_tl : PySem.W.kitOne K (.type "tuple") (.type "list") = some false := by kernel_rfl
theorem o_tt : PySem.W.kitOne K (.type "tuple") (.type "tuple") = some true := by kernel_rfl
theorem o_ii : PySem.W.kitOne K (.type "int") (.type "int") = some true := by kernel_rfl
theorem o_ib : PySem.W.kitOne K (.type "int") (.type "bool") = some false := by kernel_rfl
theorem o_is : PySem.W.kitOne K (.type "int") (.type "str") = some false := by kernel_rfl
theorem o_bb : PySem.W.kitOne K (.type "bool") (.type "bool") = some true := by kernel_rfl
theorem o_sb : PySem.W.kitOne K (.type "str") (.type "bool") = some false := by kernel_rfl
theorem o_ss : PySem.W.kitOne K (.type "str") (.type "str") = some true := by kernel_rfl
end
theorem strs_inv {G : Hp} : ∀ {w : List Str} {vs : List V}, DsAt G vs (w.map .str) → vs = w.map V.str
  | [], _, .nil => rfl
  | x :: w, _, .cons h t => by
    have e := h.str_inv
    rw [e, strs_inv t]
    rfl
theorem T.dat_kids {t : T} (h : t.ok) : (∃ i, t = .mark i) ∨ ∃ w, Head w ∧ t.dat = .tup (w.map .str ++ t.kids.map T.dat) := by
  cases t with
  | mark i => exact .inl ⟨i, rfl⟩
  | un w t => exact .inr ⟨w, h.1, rfl⟩
  | bin w t u => exact .inr ⟨w, h.1, rfl⟩
theorem T.kids_len (t : T) : t.kids.length ≤ 2 := by cases t <;> simp [T.kids]
theorem T.dat_ref {G : Hp} {v : V} {t : T} (h : DAt G v t.dat) : ∃ a, v = .ref a := by
  cases t with
  | mark i => obtain ⟨a, _, e, _⟩ := h.tup_inv; exact ⟨a, e⟩
  | un w t => obtain ⟨a, _, e, _⟩ := h.tup_inv; exact ⟨a, e⟩
  | bin w t u => obtain ⟨a, _, e, _⟩ := h.tup_inv; exact ⟨a, e⟩
end Ws

/-! ## worlds, labels, rows of truth values as data -/
namespace Ws
open PySem L2
abbrev World2 := List (List Int × List Int)
def dints (l : List Int) : Dat := .lst (l.map .int)
def dbools (l : List Bool) : Dat := .lst (l.map .bl)
def sdat (s : List Int × List Int) : Dat := .tup [dints s.1, dints s.2]
def wdat (W : World2) : Dat := .lst (W.map sdat)
def odat : Option Int → Dat
  | none => .non
  | some i => .int i
abbrev Lb := Bool × Option Int × Option Int
def lbdat (l : Lb) : Dat := .tup [.bl l.1, odat l.2.1, odat l.2.2]
def lsdat (L : List Lb) : Dat := .lst (L.map lbdat)
/-- n states, each with doors, all of them to states; at most b marks and b doors -/
structure Valid (n b : Nat) (W : World2) : Prop where
  len : W.length = n
  all : ∀ s ∈ W, s.2 ≠ [] ∧ (∀ d ∈ s.2, 0 ≤ d ∧ d < (n : Int)) ∧ s.1.length ≤ b ∧ s.2.length ≤ b
theorem ints_inv {G : Hp} : ∀ {l : List Int} {vs : List V}, DsAt G vs (l.map .int) → vs = l.map V.int
  | [], _, .nil => rfl
  | x :: w, _, .cons h t => by
    have e := h.int_inv
    rw [e, ints_inv t]
    rfl
theorem ints_mk {G : Hp} : ∀ (l : List Int), DsAt G (l.map V.int) (l.map .int)
  | [] => .nil
  | x :: w => .cons (.int x) (ints_mk w)
theorem DAt.bl_inv {G : Hp} {v : V} {x : Bool} (h : DAt G v (.bl x)) : v = .bl x := by cases h; rfl
theorem DAt.non_inv {G : Hp} {v : V} (h : DAt G v .non) : v = .non := by cases h; rfl
theorem bools_inv {G : Hp} : ∀ {l : List Bool} {vs : List V}, DsAt G vs (l.map .bl) → vs = l.map V.bl
  | [], _, .nil => rfl
  | x :: w, _, .cons h t => by
    have e := h.bl_inv
    rw [e, bools_inv t]
    rfl
theorem bools_mk {G : Hp} : ∀ (l : List Bool), DsAt G (l.map V.bl) (l.map .bl)
  | [] => .nil
  | x :: w => .cons (.bl x) (bools_mk w)
theorem DAt.ints_at {G : Hp} {v : V} {l : List Int} (h : DAt G v (dints l)) : ∃ a, v = .ref a ∧ G a = some (.lst (l.map V.int)) := by
  obtain ⟨a, vs, rfl, e, d⟩ := DAt.lst_inv h
  exact ⟨a, rfl, by rw [e, ints_inv d]⟩
theorem DAt.bools_at {G : Hp} {v : V} {l : List Bool} (h : DAt G v (dbools l)) : ∃ a, v = .ref a ∧ G a = some (.lst (l.map V.bl)) := by
  obtain ⟨a, vs, rfl, e, d⟩ := DAt.lst_inv h
  exact ⟨a, rfl, by rw [e, bools_inv d]⟩
theorem DAt.of_ints {G : Hp} {a : Addr} {l : List Int} (h : G a = some (.lst (l.map V.int))) : DAt G (.ref a) (dints l) := .lst h (ints_mk l)
theorem DAt.of_bools {G : Hp} {a : Addr} {l : List Bool} (h : G a = some (.lst (l.map V.bl))) : DAt G (.ref a) (dbools l) := .lst h (bools_mk l)
theorem sdat_inv {G : Hp} {v : V} {s : List Int × List Int} (h : DAt G v (sdat s)) : ∃ a m d, v = .ref a ∧ G a = some (.tup [.ref m, .ref d]) ∧ G m = some (.lst (s.1.map V.int)) ∧ G d = some (.lst (s.2.map V.int)) := by
  obtain ⟨a, vs, rfl, e, hv⟩ := DAt.tup_inv h
  cases hv with | cons h1 hv => cases hv with | cons h2 hv =>
  cases hv
  obtain ⟨m, rfl, em⟩ := h1.ints_at
  obtain ⟨d, rfl, ed⟩ := h2.ints_at
  exact ⟨a, m, d, rfl, e, em, ed⟩
theorem sdat_mk {G : Hp} {a m d : Addr} {s : List Int × List Int} (e : G a = some (.tup [.ref m, .ref d])) (em : G m = some (.lst (s.1.map V.int))) (ed : G d = some (.lst (s.2.map V.int))) : DAt G (.ref a) (sdat s) :=
  .tup e (.cons (.of_ints em) (.cons (.of_ints ed) .nil))
/-- an item of a list of data at a place -/
theorem DsAt.nth {G : Hp} {α : Type} {vs : List V} {ts : List α} {φ : α → Dat} (h : DsAt G vs (ts.map φ)) {i : Nat} (hi : i < ts.length) : ∃ v, vs[i]? = some v ∧ DAt G v (φ ts[i]) :=
  h.get (i := i) (d := φ ts[i]) (by rw [List.getElem?_map, List.getElem?_eq_getElem hi]; rfl)
theorem atI_of {α : Type} {xs : List α} {i : Int} {j : Nat} {v : α} (h : xs[j]? = some v) (e : i = (j : Int)) : atI xs i = some v := by rw [e]; exact atI_nat h
theorem map_nth {α β : Type} {f : α → β} {xs : List α} {j : Nat} (h : j < xs.length) : (xs.map f)[j]? = some (f xs[j]) := by
  rw [List.getElem?_map, List.getElem?_eq_getElem h]
  rfl
theorem int_mem {ns : List Int} {v : V} {i : Nat} (h : (ns.map V.int)[i]? = some v) : ∃ z, v = .int z ∧ ns[i]? = some z := by
  rw [List.getElem?_map] at h
  cases e : ns[i]? with
  | none => rw [e] at h; cases h
  | some z => rw [e] at h; exact ⟨z, (Option.some.inj h).symm, rfl⟩
theorem idx_mod {xs : List V} {z : Int} {n : Nat} (hn : xs.length = n) (h0 : 0 < n) : ∃ v, atI xs (z % (n : Int)) = some v ∧ xs[(z % (n : Int)).toNat]? = some v := by
  have h1 : 0 ≤ z % (n : Int) := Int.emod_nonneg _ (by omega)
  have h2 : z % (n : Int) < (n : Int) := Int.emod_lt_of_pos _ (by omega)
  have hk : (z % (n : Int)).toNat < xs.length := by omega
  have ek : (((z % (n : Int)).toNat : Nat) : Int) = z % (n : Int) := by omega
  refine ⟨xs[(z % (n : Int)).toNat], ?_, List.getElem?_eq_getElem hk⟩
  have q := atI_nat (List.getElem?_eq_getElem hk)
  rw [ek] at q
  exact q
/-- a list of data that grows at q: what it holds lies in a part of the heap in which q is not -/
structure Grow {α : Type} (φ : α → Dat) (H0 H : Hp) (q : Addr) (ts : List α) (vs : List V) : Prop where
  ex : ∃ G, Same H0 G ∧ Same G H ∧ G q = none ∧ DsAt G vs (ts.map φ)
  at_ : H q = some (.lst vs)
section
variable {α : Type} {φ : α → Dat} {H0 H H1 : Hp} {q : Addr} {ts : List α} {vs : List V}
theorem Grow.start (h : H0 q = none) : Grow φ H0 (upd H0 q (.lst [])) q [] [] := ⟨⟨H0, Same.refl _, same_new h _, h, .nil⟩, upd_same⟩
theorem Grow.from (sm : Same H0 H) (h : H q = none) : Grow φ H0 (upd H q (.lst [])) q [] [] := ⟨⟨H, sm, same_new h _, h, .nil⟩, upd_same⟩
theorem Grow.keep (g : Grow φ H0 H q ts vs) (s : Same H H1) : Grow φ H0 H1 q ts vs := by
  obtain ⟨⟨G, a, b, c, d⟩, e⟩ := g
  exact ⟨⟨G, a, b.trans s, c, d⟩, s _ _ e⟩
theorem Grow.free (g : Grow φ H0 H q ts vs) : H0 q = none := by
  obtain ⟨⟨G, a, b, c, d⟩, e⟩ := g
  exact a.free c
theorem Grow.same (g : Grow φ H0 H q ts vs) : Same H0 H := by
  obtain ⟨⟨G, a, b, c, d⟩, e⟩ := g
  exact a.trans b
theorem Grow.push (g : Grow φ H0 H q ts vs) {v : V} {t : α} (h : DAt (del H q) v (φ t)) : Grow φ H0 (upd H q (.lst (vs ++ [v]))) q (ts ++ [t]) (vs ++ [v]) := by
  obtain ⟨⟨G, a, b, c, d⟩, e⟩ := g
  refine ⟨⟨del H q, a.trans (same_del b c), del_upd, del_at, ?_⟩, upd_same⟩
  rw [List.map_append]
  exact (d.mono (same_del b c)).append (.cons h .nil)
theorem Grow.len (g : Grow φ H0 H q ts vs) : vs.length = ts.length := by
  obtain ⟨⟨G, a, b, c, d⟩, e⟩ := g
  rw [d.length, List.length_map]
theorem Grow.done (g : Grow φ H0 H q ts vs) : DAt H (.ref q) (.lst (ts.map φ)) := by
  obtain ⟨⟨G, a, b, c, d⟩, e⟩ := g
  exact .lst e (d.mono b)
theorem Grow.items (g : Grow φ H0 H q ts vs) : DsAt H vs (ts.map φ) := by
  obtain ⟨⟨G, a, b, c, d⟩, e⟩ := g
  exact d.mono b
/-- data that lies in a part of the heap without q -/
theorem Grow.old (g : Grow φ H0 H q ts vs) {v : V} {d : Dat} (h : DAt H0 v d) : DAt (del H q) v d := h.mono (same_del g.same g.free)
end
/-- an if that may append something to the list in slot j, and else changes nothing that is tracked -/
def tMay (j : Nat) (Pre : St → Hp → Prop) (Post : St → V → Prop) : TS := fun D σ H => ∃ (p : Addr) (xs : List V), σ[j]? = some (some (.ref p)) ∧ H p = some (.lst xs) ∧ xs.length ≤ 1000000 ∧ Pre σ H ∧
  ∀ (H2 : Hp) (ys : List V), (ys = xs ∨ ∃ y, Post σ y ∧ ys = xs ++ [y]) → H2 p = some (.lst ys) → (∀ b o, b ≠ p → H b = some o → H2 b = some o) → D.nx σ H2
/-- the states of a line, each with its tuple, its marks and its doors -/
structure Rec where
  t : Addr
  m : Addr
  d : Addr
  s : List Int × List Int
structure Line (H0 H : Hp) (q : Addr) (rs : List Rec) : Prop where
  same : Same H0 H
  fq : H0 q = none
  at_ : H q = some (.lst (rs.map fun r => V.ref r.t))
  tu : ∀ (i : Nat) (r : Rec), rs[i]? = some r → H r.t = some (.tup [.ref r.m, .ref r.d]) ∧ H r.m = some (.lst (r.s.1.map V.int)) ∧ H r.d = some (.lst (r.s.2.map V.int)) ∧ H0 r.d = none ∧ r.d ≠ q ∧ r.m ≠ q ∧ r.t ≠ q
  md : ∀ (i j : Nat) (r r' : Rec), rs[i]? = some r → rs[j]? = some r' → r.m ≠ r'.d
  dd : ∀ (i j : Nat) (r r' : Rec), rs[i]? = some r → rs[j]? = some r' → i ≠ j → r.d ≠ r'.d
theorem set_self {α : Type} {xs : List α} {j : Nat} {x : α} (h : xs[j]? = some x) : xs.set j x = xs := by
  refine List.ext_getElem? fun i => ?_
  by_cases hi : i = j
  · subst hi
    rw [List.getElem?_set_self (List.getElem?_eq_some_iff.mp h).1, h]
  · rw [List.getElem?_set_ne (fun z => hi z.symm)]
theorem Line.start {H0 : Hp} {q : Addr} (h : H0 q = none) : Line H0 (upd H0 q (.lst [])) q [] := ⟨same_new h _, h, upd_same, (fun i r e => by simp at e), (fun i j r r' e => by simp at e), (fun i j r r' e => by simp at e)⟩
theorem Line.keep {H0 H H1 : Hp} {q : Addr} {rs : List Rec} (L : Line H0 H q rs) (s : Same H H1) : Line H0 H1 q rs :=
  ⟨L.same.trans s, L.fq, s _ _ L.at_, fun i r e => let ⟨a, b, c, d⟩ := L.tu i r e; ⟨s _ _ a, s _ _ b, s _ _ c, d⟩, L.md, L.dd⟩
theorem snoc_get {α : Type} {xs : List α} {x y : α} {i : Nat} (h : (xs ++ [x])[i]? = some y) : (xs[i]? = some y ∧ i < xs.length) ∨ (i = xs.length ∧ y = x) := by
  by_cases hi : i < xs.length
  · rw [List.getElem?_append_left hi] at h
    exact .inl ⟨h, hi⟩
  · rw [List.getElem?_append_right (by omega)] at h
    have h0 : i - xs.length = 0 := by
      have := (List.getElem?_eq_some_iff.mp h).1
      simp at this
      omega
    rw [h0] at h
    have h : some x = some y := h
    exact .inr ⟨by omega, (Option.some.inj h).symm⟩
theorem Line.push {H0 H : Hp} {q : Addr} {rs : List Rec} (L : Line H0 H q rs) {r : Rec} (ht : H r.t = some (.tup [.ref r.m, .ref r.d])) (hm : H r.m = some (.lst (r.s.1.map V.int))) (hd : H r.d = some (.lst (r.s.2.map V.int))) (h0 : H0 r.d = none)
    (n1 : r.d ≠ q) (n2 : r.m ≠ q) (n4 : r.t ≠ q) (n3 : r.m ≠ r.d) (old : ∀ (i : Nat) (r' : Rec), rs[i]? = some r' → r'.m ≠ r.d ∧ r.m ≠ r'.d ∧ r'.d ≠ r.d) : Line H0 (upd H q (.lst ((rs.map fun r => V.ref r.t) ++ [V.ref r.t]))) q (rs ++ [r]) := by
  have up : ∀ b o, b ≠ q → H b = some o → upd H q (.lst ((rs.map fun r => V.ref r.t) ++ [V.ref r.t])) b = some o := fun b o hb e => by rw [upd_ne hb]; exact e
  refine ⟨same_upd L.same L.fq _, L.fq, by rw [upd_same, List.map_append]; rfl, fun i x e => ?_, fun i j x y e e' => ?_, fun i j x y e e' ne => ?_⟩
  · rcases snoc_get e with ⟨e, _⟩ | ⟨_, rfl⟩
    · obtain ⟨a, b, c, d, f, g, h⟩ := L.tu i x e
      exact ⟨up _ _ h a, up _ _ g b, up _ _ f c, d, f, g, h⟩
    · exact ⟨up _ _ n4 ht, up _ _ n2 hm, up _ _ n1 hd, h0, n1, n2, n4⟩
  · rcases snoc_get e with ⟨e1, _⟩ | ⟨_, z1⟩
    · rcases snoc_get e' with ⟨e2, _⟩ | ⟨_, z2⟩
      · exact L.md i j x y e1 e2
      · rw [z2]; exact (old i x e1).1
    · rcases snoc_get e' with ⟨e2, _⟩ | ⟨_, z2⟩
      · rw [z1]; exact (old j y e2).2.1
      · rw [z1, z2]; exact n3
  · rcases snoc_get e with ⟨e1, _⟩ | ⟨ei, z1⟩
    · rcases snoc_get e' with ⟨e2, _⟩ | ⟨_, z2⟩
      · exact L.dd i j x y e1 e2 ne
      · rw [z2]; exact (old i x e1).2.2
    · rcases snoc_get e' with ⟨e2, _⟩ | ⟨ej, z2⟩
      · rw [z1]; exact (old j y e2).2.2.symm
      · exact absurd (ei.trans ej.symm) ne
theorem Line.done {H0 H : Hp} {q : Addr} {rs : List Rec} (L : Line H0 H q rs) : DAt H (.ref q) (wdat (rs.map Rec.s)) := by
  refine .lst L.at_ ?_
  have tu := L.tu
  clear L
  induction rs with
  | nil => exact .nil
  | cons r rs ih =>
    obtain ⟨a, b, c, _⟩ := tu 0 r rfl
    exact .cons (sdat_mk a b c) (ih fun i x e => tu (i + 1) x (by simpa using e))
/-- the doors of one state stored anew -/
theorem Line.store {H0 H : Hp} {q : Addr} {rs : List Rec} (L : Line H0 H q rs) {j : Nat} {r : Rec} (hj : rs[j]? = some r) (ds : List Int) : Line H0 (upd H r.d (.lst (ds.map V.int))) q (rs.set j { r with s := (r.s.1, ds) }) := by
  obtain ⟨_, _, _, h0, nq, _, _⟩ := L.tu j r hj
  have hlt := (List.getElem?_eq_some_iff.mp hj).1
  have look : ∀ (i : Nat) (x : Rec), (rs.set j { r with s := (r.s.1, ds) })[i]? = some x → (i = j ∧ x = { r with s := (r.s.1, ds) }) ∨ (i ≠ j ∧ rs[i]? = some x) := fun i x e => by
    by_cases hi : i = j
    · subst hi
      rw [List.getElem?_set_self hlt] at e
      exact .inl ⟨rfl, (Option.some.inj e).symm⟩
    · rw [List.getElem?_set_ne (fun z => hi z.symm)] at e
      exact .inr ⟨hi, e⟩
  have up : ∀ b o, b ≠ r.d → H b = some o → upd H r.d (.lst (ds.map V.int)) b = some o := fun b o hb e => by rw [upd_ne hb]; exact e
  refine ⟨same_upd L.same h0 _, L.fq, ?_, fun i x e => ?_, fun i k x y e e' => ?_, fun i k x y e e' ne => ?_⟩
  · rw [upd_ne (Ne.symm nq), List.map_set, L.at_]
    congr 2
    refine (set_self ?_).symm
    rw [List.getElem?_map, hj]
    rfl
  · rcases look i x e with ⟨rfl, rfl⟩ | ⟨hi, e⟩
    · obtain ⟨a, b, c, d, f, g, h⟩ := L.tu i r hj
      exact ⟨up _ _ (ne_of a c (by intro z; cases z)) a, up _ _ (L.md i i r r hj hj) b, upd_same, d, f, g, h⟩
    · obtain ⟨a, b, c, d, f, g, h⟩ := L.tu i x e
      obtain ⟨_, _, c', _⟩ := L.tu j r hj
      exact ⟨up _ _ (ne_of a c' (by intro z; cases z)) a, up _ _ (L.md i j x r e hj) b, up _ _ (L.dd i j x r e hj hi) c, d, f, g, h⟩
  · rcases look i x e with ⟨z1, z2⟩ | ⟨hi, e1⟩
    · rcases look k y e' with ⟨z3, z4⟩ | ⟨hk, e2⟩
      · rw [z2, z4]; exact L.md j j r r hj hj
      · rw [z2]; exact L.md j k r y hj e2
    · rcases look k y e' with ⟨z3, z4⟩ | ⟨hk, e2⟩
      · rw [z4]; exact L.md i j x r e1 hj
      · exact L.md i k x y e1 e2
  · rcases look i x e with ⟨z1, z2⟩ | ⟨hi, e1⟩
    · rcases look k y e' with ⟨z3, z4⟩ | ⟨hk, e2⟩
      · exact absurd (z1.trans z3.symm) ne
      · rw [z2]; exact L.dd j k r y hj e2 (fun z => hk z.symm)
    · rcases look k y e' with ⟨z3, z4⟩ | ⟨hk, e2⟩
      · rw [z4]; exact L.dd i j x r e1 hj hi
      · exact L.dd i k x y e1 e2 ne
def ov : Option Int → V
  | none => .non
  | some i => .int i
theorem odat_inv {G : Hp} {v : V} {o : Option Int} (h : DAt G v (odat o)) : v = ov o := by
  cases o with
  | none => exact DAt.non_inv h
  | some i => exact DAt.int_inv h
theorem odat_mk {G : Hp} (o : Option Int) : DAt G (ov o) (odat o) := by
  cases o with
  | none => exact .non
  | some i => exact .int i
theorem lbdat_inv {G : Hp} {v : V} {l : Lb} (h : DAt G v (lbdat l)) : ∃ a, v = .ref a ∧ G a = some (.tup [.bl l.1, ov l.2.1, ov l.2.2]) := by
  obtain ⟨a, vs, rfl, e, hv⟩ := DAt.tup_inv h
  cases hv with | cons h1 hv => cases hv with | cons h2 hv => cases hv with | cons h3 hv =>
  cases hv
  cases h1.bl_inv
  rw [odat_inv h2, odat_inv h3] at e
  exact ⟨a, rfl, e⟩
theorem lbdat_mk {G : Hp} {a : Addr} {l : Lb} (e : G a = some (.tup [.bl l.1, ov l.2.1, ov l.2.2])) : DAt G (.ref a) (lbdat l) := .tup e (.cons (.bl _) (.cons (odat_mk _) (.cons (odat_mk _) .nil)))
theorem at2 {x y z : V} {r : List V} : atI (x :: y :: z :: r) (2 : Int) = some z := by
  have h : (x :: y :: z :: r)[2]? = some z := rfl
  exact atI_nat (j := 2) h
/-- all ends have that truth and a number below -/
def lowB (E : List Lb) (t : Bool) (m : Int) : Bool := E.all fun e => e.1 == t && match e.2.1 with
  | none => false
  | some x => decide (x < m)
def numOk : Option Int → Bool
  | none => true
  | some x => decide (0 ≤ x)
def doorOk (doors : List Int) : Option Int → Bool
  | none => true
  | some d => decide (d ∈ doors)
def lbOk (l : Lb) (doors : List Int) : Bool := numOk l.2.1 && doorOk doors l.2.2
def arB (L : List Lb) (W : World2) : Bool := decide (L.length = W.length) && (List.range L.length).all fun k => lbOk (L.getD k default) (W.getD k default).2
theorem all_take_succ {α : Type} {p : α → Bool} {xs : List α} {i : Nat} {x : α} (h : xs[i]? = some x) (h1 : (xs.take i).all p = true) (h2 : p x = true) : (xs.take (i + 1)).all p = true := by
  rw [List.take_add_one, h, List.all_append, h1]
  simp [h2]
theorem all_false {α : Type} {p : α → Bool} {xs : List α} {i : Nat} {x : α} (h : xs[i]? = some x) (h2 : p x = false) : xs.all p = false := by
  rw [List.all_eq_false]
  exact ⟨x, List.mem_of_getElem? h, by rw [h2]; exact Bool.false_ne_true⟩
theorem inV_int {x : Int} : ∀ {xs : List Int}, inV (.int x) (xs.map V.int) = decide (x ∈ xs)
  | [] => rfl
  | y :: r => by
    have ih := @inV_int x r
    show (eqV (.int y) (.int x) || inV (.int x) (r.map V.int)) = _
    rw [ih]
    show ((y == x) || decide (x ∈ r)) = _
    by_cases e : y = x
    · subst e; simp
    · have : (y == x) = false := by simpa using e
      rw [this, Bool.false_or]
      by_cases m : x ∈ r
      · rw [decide_eq_true m, decide_eq_true (List.mem_cons_of_mem _ m)]
      · rw [decide_eq_false m, decide_eq_false]
        intro z
        rcases List.mem_cons.mp z with z | z
        · exact e z.symm
        · exact m z
theorem inV_bl {b : Bool} : ∀ {xs : List Bool}, inV (.bl b) (xs.map V.bl) = xs.contains b
  | [] => rfl
  | y :: r => by
    have ih := @inV_bl b r
    show (eqV (.bl y) (.bl b) || inV (.bl b) (r.map V.bl)) = _
    rw [ih, List.contains_cons]
    show ((y == b) || _) = _
    cases y <;> cases b <;> rfl
theorem flat_ints {xs : List Int} : (xs.map V.int).all flatV = true := by
  rw [List.all_map]
  exact List.all_eq_true.mpr fun x _ => rfl
theorem flat_bls {xs : List Bool} : (xs.map V.bl).all flatV = true := by
  rw [List.all_map]
  exact List.all_eq_true.mpr fun x _ => rfl
theorem bMin : bootBuiltins "min" = some (.builtin "min") := by decide +kernel
theorem bMax : bootBuiltins "max" = some (.builtin "max") := by decide +kernel
theorem line0 : 0 ≤ sizeLine := Nat.zero_le _
end Ws

namespace Ws
open PySem L2
theorem getD_eq {α : Type} {xs : List α} {i : Nat} {d : α} (h : i < xs.length) : xs.getD i d = xs[i] := by simp [List.getD, h]
def lbAt (L : List Lb) (d : Int) : Lb := L.getD d.toNat default
def endsOf (L : List Lb) (doors : List Int) : List Lb := doors.map (lbAt L)
def suR (left right : List Bool) (L : List Lb) (k : Nat) (doors : List Int) : Bool :=
  match L.getD k default with
  | (false, some _, _) => false
  | (false, none, some _) => false
  | (false, none, none) => if right.getD k false then false else !left.getD k false || !((endsOf L doors).map (·.1)).contains true
  | (true, none, none) => false
  | (true, some x, none) => decide (x = 0) && right.getD k false
  | (true, none, some _) => false
  | (true, some x, some d) => if decide (x = 0) || !left.getD k false then false else (lbAt L d).1 && decide ((lbAt L d).2.1 = some (x - 1))
def auR (left right : List Bool) (L : List Lb) (k : Nat) (doors : List Int) : Bool :=
  match L.getD k default with
  | (true, none, _) => false
  | (true, some _, some _) => false
  | (true, some x, none) => if decide (x = 0) then right.getD k false else left.getD k false && lowB (endsOf L doors) true x
  | (false, some _, _) => false
  | (false, none, none) => if right.getD k false then false else !left.getD k false
  | (false, none, some d) => if right.getD k false then false else left.getD k false && !(lbAt L d).1
/-- what is asked of the arguments of the four: n states, doors and the label's door are states -/
structure RPre (H : Hp) (n : Nat) (c d : Addr) (L : List Lb) (k : Nat) (doors : List Int) : Prop where
  lab : DAt H (.ref c) (lsdat L)
  drs : H d = some (.lst (doors.map V.int))
  len : L.length = n
  kn : k < n
  inn : ∀ e ∈ doors, 0 ≤ e ∧ e < (n : Int)
  own : ∀ e, (L.getD k default).2.2 = some e → 0 ≤ e ∧ e < (n : Int)
  few : doors.length ≤ 1000000
theorem RPre.keep {H H' : Hp} {n : Nat} {c d : Addr} {L : List Lb} {k : Nat} {doors : List Int} (r : RPre H n c d L k doors) (s : Same H H') : RPre H' n c d L k doors := ⟨r.lab.mono s, s _ _ r.drs, r.len, r.kn, r.inn, r.own, r.few⟩
/-- a label by its place -/
theorem RPre.at_ {H : Hp} {n : Nat} {c d : Addr} {L : List Lb} {k : Nat} {doors : List Int} (r : RPre H n c d L k doors) {e : Int} (h0 : 0 ≤ e) (h1 : e < (n : Int)) :
    ∃ us a, H c = some (.lst us) ∧ atI us e = some (.ref a) ∧ H a = some (.tup [.bl (lbAt L e).1, ov (lbAt L e).2.1, ov (lbAt L e).2.2]) ∧ DAt H (.ref a) (lbdat (lbAt L e)) := by
  obtain ⟨c', us, ec, hc, hu⟩ := DAt.lst_inv r.lab
  cases ec
  have hi : e.toNat < L.length := by have := r.len; omega
  obtain ⟨u, eu, du⟩ := hu.nth hi
  obtain ⟨a, rfl, ea⟩ := lbdat_inv du
  have eq : lbAt L e = L[e.toNat] := getD_eq hi
  refine ⟨us, a, hc, atI_of eu (by omega), by rw [eq]; exact ea, by rw [eq]; exact du⟩
theorem RPre.atK {H : Hp} {n : Nat} {c d : Addr} {L : List Lb} {k : Nat} {doors : List Int} (r : RPre H n c d L k doors) :
    ∃ us a, H c = some (.lst us) ∧ atI us (k : Int) = some (.ref a) ∧ H a = some (.tup [.bl (L.getD k default).1, ov (L.getD k default).2.1, ov (L.getD k default).2.2]) := by
  obtain ⟨us, a, h1, h2, h3, _⟩ := r.at_ (e := (k : Int)) (by omega) (by have := r.kn; omega)
  exact ⟨us, a, h1, h2, h3⟩
theorem row_at {H : Hp} {a : Addr} {l : List Bool} {k : Nat} (h : k < l.length) : atI (l.map V.bl) (k : Int) = some (V.bl (l.getD k false)) := by
  rw [getD_eq h]
  exact atI_nat (map_nth h)
def saR (here : List Bool) (L : List Lb) (k : Nat) (doors : List Int) : Bool :=
  match L.getD k default with
  | (_, none, _) => false
  | (false, some x, none) => lowB (endsOf L doors) false (x + 1 - (if here.getD k false then 1 else 0))
  | (false, some _, some _) => false
  | (true, some _, none) => false
  | (true, some x, some d) => if !(lbAt L d).1 then false else if decide (x = 0) then here.getD k false else decide ((lbAt L d).2.1 = some (x - 1))
def aaR (here : List Bool) (L : List Lb) (k : Nat) (doors : List Int) : Bool :=
  match L.getD k default with
  | (_, none, _) => false
  | (true, some _, some _) => false
  | (true, some x, none) => if here.getD k false then !((endsOf L doors).map (·.1)).contains false else lowB (endsOf L doors) true x
  | (false, some _, none) => false
  | (false, some x, some d) => if (lbAt L d).1 then false else if decide (x = 0) then !here.getD k false && decide ((lbAt L d).2.1 = some 0) else decide ((lbAt L d).2.1 = some (x - 1))
theorem ends_comp {K : PySem.W.Frag} {H : Hp} {n : Nat} {c d D : Addr} {L : List Lb} {k : Nat} {doors : List Int} (R : RPre H n c d L k doors) {Q : VK} (hD : H D = none) (hq : ∀ H1, Same H H1 → DAt H1 (.ref D) (lsdat (endsOf L doors)) → Q (.ref D) H1) :
    CompRd D (Itl K d) (gName 0) (fun _ H Q => Q true H) (tOp (rIxL K) (tVar 1) (tVar 0)) Q [none, some (.ref c)] (upd H D (.lst [])) := by
  refine comp_over (xs := doors.map V.int) (fun i ys τ H' => Grow lbdat H H' D (endsOf L (doors.take i)) ys ∧ ∃ v, τ = [v, some (.ref c)]) ⟨Grow.start hD, none, rfl⟩ (fun i ys τ H' _ h => SqL.of (h.1.same _ _ R.drs)) ?_ ?_
  · rintro i y ys τ H1 hy ⟨gr, v, rfl⟩
    obtain ⟨e, rfl, he⟩ := int_mem hy
    have hi := (List.getElem?_eq_some_iff.mp he).1
    obtain ⟨p1, p2⟩ := R.inn e (List.mem_of_getElem? he)
    obtain ⟨us', a2, h1, h2, h3, d3⟩ := R.at_ p1 p2
    have few := R.few
    have ln := gr.len
    unfold endsOf at ln
    rw [List.length_map, List.length_take] at ln
    refine ⟨_, rfl, _, rfl, c, us', _, _, rfl, rfl, SqL.of (gr.same _ _ h1), h2, gr.at_, line_lt (by omega), ?_, _, rfl⟩
    have tk : endsOf L (doors.take (i + 1)) = endsOf L (doors.take i) ++ [lbAt L e] := by
      unfold endsOf
      rw [List.take_add_one, he, List.map_append]
      rfl
    rw [tk]
    exact gr.push (gr.old d3)
  · rintro ys τ H1 ⟨gr, v, rfl⟩
    rw [List.length_map, List.take_length] at gr
    exact hq _ gr.same gr.done
theorem dec_ov {o : Option Int} {x : Int} : decide (ov o = V.int x) = decide (o = some x) := by
  cases o with
  | none => rfl
  | some y =>
    by_cases hy : y = x
    · rw [decide_eq_true (congrArg some hy), decide_eq_true (show ov (some y) = V.int x from congrArg V.int hy)]
    · rw [decide_eq_false (fun z => hy (Option.some.inj z)), decide_eq_false (show ¬ ov (some y) = V.int x from fun z => hy (V.int.inj z))]
theorem itI {x y : Int} {A B : Prop} (h1 : decide (x = y) = true → A) (h2 : decide (x = y) = false → B) : if (decide (V.int x = V.int y)) = true then A else B := by
  by_cases h : x = y
  · rw [if_pos (decide_eq_true (congrArg V.int h))]
    exact h1 (decide_eq_true h)
  · rw [if_neg (by rw [decide_eq_false (fun z => h (V.int.inj z))]; exact Bool.false_ne_true)]
    exact h2 (decide_eq_false h)
theorem scal_ov {o : Option Int} {x : Int} : scal (ov o) (V.int x) = true := by cases o <;> rfl
theorem dec_int0 {x y : Int} : decide (V.int x = V.int y) = decide (x = y) := by
  by_cases h : x = y
  · rw [decide_eq_true h, decide_eq_true (congrArg V.int h)]
  · rw [decide_eq_false h, decide_eq_false fun z => h (V.int.inj z)]
theorem map_snoc (l : List Int) (x : Int) : (l ++ [x]).map V.int = l.map V.int ++ [V.int x] := by rw [List.map_append]; rfl
structure Path (n : Nat) (W : World2) (row : List Int) : Prop where
  inn : ∀ x ∈ row, 0 ≤ x ∧ x < (n : Int)
  go : ∀ (i : Nat) (x y : Int), row[i]? = some x → row[i + 1]? = some y → ∃ s, W[x.toNat]? = some s ∧ y ∈ s.2
theorem Path.snoc {n : Nat} {W : World2} {r : List Int} {x y : Int} {s : List Int × List Int} (p : Path n W (r ++ [x])) (h0 : 0 ≤ y) (h1 : y < (n : Int)) (hs : W[x.toNat]? = some s) (hy : y ∈ s.2) : Path n W (r ++ [x] ++ [y]) := by
  refine ⟨fun z hz => ?_, fun i a b ha hb => ?_⟩
  · rcases List.mem_append.mp hz with hz | hz
    · exact p.inn z hz
    · rw [List.mem_singleton] at hz
      rw [hz]; exact ⟨h0, h1⟩
  · rcases snoc_get hb with ⟨hb, hi⟩ | ⟨hi, rfl⟩
    · rcases snoc_get ha with ⟨ha, _⟩ | ⟨hj, _⟩
      · exact p.go i a b ha hb
      · omega
    · rcases snoc_get ha with ⟨ha, _⟩ | ⟨hj, _⟩
      · have hl : i = r.length := by rw [List.length_append] at hi; have : ([x] : List Int).length = 1 := rfl; omega
        rw [hl, List.getElem?_append_right (Nat.le_refl _), Nat.sub_self] at ha
        have ha : some x = some a := ha
        cases ha
        exact ⟨s, hs, hy⟩
      · rw [← hi] at hj; omega
/-- the states that are not in a row -/
def missing (n : Nat) (row : List Int) : Nat := (List.range n).countP fun i : Nat => !row.contains (i : Int)
theorem countP_lt {α : Type} {p q : α → Bool} : ∀ {l : List α} {k : α}, k ∈ l → (∀ x, q x = true → p x = true) → p k = true → q k = false → l.countP q < l.countP p
  | y :: r, k, hk, hi, hp, hq => by
    have le : r.countP q ≤ r.countP p := List.countP_mono_left fun x _ h => hi x h
    rw [List.countP_cons, List.countP_cons]
    rcases List.mem_cons.mp hk with rfl | hk
    · rw [hp, hq]
      simp
      omega
    · have ih := countP_lt hk hi hp hq
      by_cases hy : q y = true
      · rw [hy, hi y hy]; simp; omega
      · have : q y = false := by simpa using hy
        rw [this]
        simp
        omega
theorem missing_lt {n : Nat} {row : List Int} {x : Int} (h0 : 0 ≤ x) (h1 : x < (n : Int)) (hx : ¬ x ∈ row) : missing n (row ++ [x]) < missing n row := by
  refine countP_lt (k := x.toNat) (List.mem_range.mpr (by omega)) (fun i hi => ?_) ?_ ?_
  · simp at hi ⊢
    exact hi.1
  · have e : ((x.toNat : Nat) : Int) = x := by omega
    simp [e, hx]
  · have e : ((x.toNat : Nat) : Int) = x := by omega
    simp [e]
theorem missing_le (n : Nat) (row : List Int) : missing n row ≤ n := by
  have := List.countP_le_length (p := fun i : Nat => !row.contains (i : Int)) (l := List.range n)
  rw [List.length_range] at this
  exact this
theorem find_mem {x : Int} : ∀ {xs : List Int}, x ∈ xs → ∃ j, (xs.map V.int).findIdx? (fun z => eqV z (.int x)) = some j ∧ xs[j]? = some x := fun {xs} h => by
  cases e : (xs.map V.int).findIdx? (fun z => eqV z (.int x)) with
  | none =>
    rw [List.findIdx?_eq_none_iff] at e
    have := e (.int x) (List.mem_map.mpr ⟨x, h, rfl⟩)
    have t : eqV (.int x) (.int x) = true := by show (x == x) = true; simp
    rw [t] at this
    cases this
  | some j =>
    refine ⟨j, rfl, ?_⟩
    obtain ⟨hlt, hp, _⟩ := List.findIdx?_eq_some_iff_getElem.mp e
    rw [List.getElem_map] at hp
    have hp : (xs[j]'(by simpa using hlt) == x) = true := hp
    rw [List.getElem?_eq_getElem (by simpa using hlt)]
    exact congrArg some (by simpa using hp)
def untilB (r0 r1 : List Bool) : List Int → Bool
  | [] => false
  | k :: r => if r1.getD k.toNat false then true else if r0.getD k.toNat false then untilB r0 r1 r else false
def trOf (r0 : List Bool) (row : List Int) : List Bool := row.map fun k => r0.getD k.toNat false
def onW (so : Str) (rows : List (List Bool)) (row : List Int) (bk : Nat) : Bool :=
  let tr := trOf (rows.getD 0 []) row
  if so = "next" then (tr ++ tr.drop bk).getD 1 false
  else if so = "until" then untilB (rows.getD 0 []) (rows.getD 1 []) row
  else if so = "last" then tr.contains true
  else if so = "always" then !tr.contains false
  else if so = "again" then (tr.drop bk).contains true
  else !(tr.drop bk).contains false
theorem itS {x y : Str} {A B : Prop} (h1 : x = y → A) (h2 : ¬ x = y → B) : if (decide (V.str x = V.str y)) = true then A else B := by
  by_cases h : x = y
  · rw [if_pos (decide_eq_true (congrArg V.str h))]
    exact h1 h
  · rw [if_neg (by rw [decide_eq_false (fun z => h (V.str.inj z))]; exact Bool.false_ne_true)]
    exact h2 h
theorem three (z : Int) (a b c : Int) : ∃ e, atI [V.int a, V.int b, V.int c] (z % 3) = some (.int e) := by
  obtain ⟨v, e1, e2⟩ := idx_mod (xs := [V.int a, V.int b, V.int c]) (z := z) (n := 3) rfl (by decide)
  have m := List.mem_of_getElem? e2
  simp only [List.mem_cons, List.not_mem_nil, or_false] at m
  rcases m with rfl | rfl | rfl
  · exact ⟨a, e1⟩
  · exact ⟨b, e1⟩
  · exact ⟨c, e1⟩
theorem cnt_ok {Q : VK} {H : Hp} (q : ∀ n : Nat, 1 ≤ n → n ≤ 40 → Q (.int (n : Int)) H) {x : Int} (h1 : 1 ≤ x) (h2 : x ≤ 40) : Q (.int x) H := by
  have := q x.toNat (by omega) (by omega)
  have e : ((x.toNat : Nat) : Int) = x := by omega
  rw [e] at this
  exact this
/-- a state that is as it should be -/
def StOk (n b : Nat) (s : List Int × List Int) : Prop := s.2 ≠ [] ∧ (∀ d ∈ s.2, 0 ≤ d ∧ d < (n : Int)) ∧ s.1.length ≤ b ∧ s.2.length ≤ b
theorem valid_of {n b : Nat} {W : World2} (h : W.length = n) (h2 : ∀ s ∈ W, StOk n b s) : Valid n b W := ⟨h, h2⟩
theorem ok_snoc {n b : Nat} {W : World2} {s : List Int × List Int} (h : ∀ t ∈ W, StOk n b t) (hs : StOk n b s) : ∀ t ∈ W ++ [s], StOk n b t := fun t ht => by
  rcases List.mem_append.mp ht with ht | ht
  · exact h t ht
  · rw [List.mem_singleton] at ht
    rw [ht]
    exact hs
theorem three_at {j : Nat} (h : j < 3) (a b c : Int) : ∃ e, atI [V.int a, V.int b, V.int c] (0 + (j : Int)) = some (.int e) := by
  have h3 : j < ([V.int a, V.int b, V.int c] : List V).length := h
  have e1 := List.getElem?_eq_getElem h3
  have m := List.mem_of_getElem? e1
  have q := atI_of (i := 0 + (j : Int)) e1 (by omega)
  simp only [List.mem_cons, List.not_mem_nil, or_false] at m
  rcases m with m | m | m <;> (rw [m] at q; exact ⟨_, q⟩)
end Ws

/-! ## what right labels say of a way -/
namespace Ws
open PySem L2
theorem su_false {left right : List Bool} {L : List Lb} {k : Nat} {doors : List Int} (h : suR left right L k doors = true) (hf : (L.getD k default).1 = false) :
    right.getD k false = false ∧ (left.getD k false = false ∨ ∀ e ∈ doors, (lbAt L e).1 = false) := by
  unfold suR at h
  generalize L.getD k default = l at h hf
  obtain ⟨lt, ln, ld⟩ := l
  have hf : lt = false := hf
  subst hf
  cases ln with
  | some x => cases h
  | none =>
    cases ld with
    | some x => cases h
    | none =>
      have h : (if right.getD k false then false else !left.getD k false || !((endsOf L doors).map (·.1)).contains true) = true := h
      cases hr : right.getD k false with
      | true => rw [hr] at h; cases h
      | false =>
        rw [hr] at h
        refine ⟨rfl, ?_⟩
        cases hl : left.getD k false with
        | false => exact .inl rfl
        | true =>
          rw [hl] at h
          refine .inr fun e he => ?_
          have h : (!((endsOf L doors).map (·.1)).contains true) = true := h
          cases hb : (lbAt L e).1 with
          | false => rfl
          | true =>
            have m : true ∈ (endsOf L doors).map (·.1) := List.mem_map.mpr ⟨lbAt L e, List.mem_map.mpr ⟨e, he, rfl⟩, hb⟩
            rw [List.contains_iff_mem.mpr m] at h
            cases h
theorem low_all {E : List Lb} {t : Bool} {m : Int} (h : lowB E t m = true) : ∀ e ∈ E, e.1 = t ∧ ∃ y, e.2.1 = some y ∧ y < m := fun e he => by
  have q := List.all_eq_true.mp h e he
  rw [Bool.and_eq_true] at q
  obtain ⟨q1, q2⟩ := q
  refine ⟨by simpa using q1, ?_⟩
  obtain ⟨a, n, d⟩ := e
  cases n with
  | none => cases q2
  | some y => exact ⟨y, rfl, of_decide_eq_true q2⟩
theorem au_true {left right : List Bool} {L : List Lb} {k : Nat} {doors : List Int} (h : auR left right L k doors = true) (hf : (L.getD k default).1 = true) :
    ∃ x, (L.getD k default).2.1 = some x ∧ (right.getD k false = true ∨ (left.getD k false = true ∧ ∀ e ∈ doors, (lbAt L e).1 = true ∧ ∃ y, (lbAt L e).2.1 = some y ∧ y < x)) := by
  unfold auR at h
  generalize L.getD k default = l at h hf
  obtain ⟨lt, ln, ld⟩ := l
  have hf : lt = true := hf
  subst hf
  cases ln with
  | none => cases h
  | some x =>
    cases ld with
    | some d => cases h
    | none =>
      refine ⟨x, rfl, ?_⟩
      have h : (if decide (x = 0) then right.getD k false else left.getD k false && lowB (endsOf L doors) true x) = true := h
      cases hx : decide (x = 0) with
      | true => rw [hx] at h; exact .inl h
      | false =>
        rw [hx] at h
        have h : (left.getD k false && lowB (endsOf L doors) true x) = true := h
        rw [Bool.and_eq_true] at h
        exact .inr ⟨h.1, fun e he => low_all h.2 _ (List.mem_map.mpr ⟨e, he, rfl⟩)⟩
theorem sa_false {here : List Bool} {L : List Lb} {k : Nat} {doors : List Int} (h : saR here L k doors = true) (hf : (L.getD k default).1 = false) :
    ∃ x, (L.getD k default).2.1 = some x ∧ ∀ e ∈ doors, (lbAt L e).1 = false ∧ ∃ y, (lbAt L e).2.1 = some y ∧ y < x + 1 - (if here.getD k false then 1 else 0) := by
  unfold saR at h
  generalize L.getD k default = l at h hf
  obtain ⟨lt, ln, ld⟩ := l
  have hf : lt = false := hf
  subst hf
  cases ln with
  | none => cases h
  | some x =>
    cases ld with
    | some d => cases h
    | none => exact ⟨x, rfl, fun e he => low_all h _ (List.mem_map.mpr ⟨e, he, rfl⟩)⟩
theorem aa_true {here : List Bool} {L : List Lb} {k : Nat} {doors : List Int} (h : aaR here L k doors = true) (hf : (L.getD k default).1 = true) :
    ∃ x, (L.getD k default).2.1 = some x ∧ (∀ e ∈ doors, (lbAt L e).1 = true) ∧ (here.getD k false = false → ∀ e ∈ doors, ∃ y, (lbAt L e).2.1 = some y ∧ y < x) := by
  unfold aaR at h
  generalize L.getD k default = l at h hf
  obtain ⟨lt, ln, ld⟩ := l
  have hf : lt = true := hf
  subst hf
  cases ln with
  | none => cases h
  | some x =>
    cases ld with
    | some d => cases h
    | none =>
      refine ⟨x, rfl, ?_⟩
      have h : (if here.getD k false then !((endsOf L doors).map (·.1)).contains false else lowB (endsOf L doors) true x) = true := h
      cases hh : here.getD k false with
      | true =>
        rw [hh] at h
        have h : (!((endsOf L doors).map (·.1)).contains false) = true := h
        refine ⟨fun e he => ?_, fun z => by cases z⟩
        cases hb : (lbAt L e).1 with
        | true => rfl
        | false =>
          have m : false ∈ (endsOf L doors).map (·.1) := List.mem_map.mpr ⟨lbAt L e, List.mem_map.mpr ⟨e, he, rfl⟩, hb⟩
          rw [List.contains_iff_mem.mpr m] at h
          cases h
      | false =>
        rw [hh] at h
        exact ⟨fun e he => (low_all h _ (List.mem_map.mpr ⟨e, he, rfl⟩)).1, fun _ e he => (low_all h _ (List.mem_map.mpr ⟨e, he, rfl⟩)).2⟩
/-- the doors of a state of the world -/
def dr (W : World2) (k : Nat) : List Int := (W.getD k default).2
theorem dr_of {W : World2} {k : Nat} {s : List Int × List Int} (h : W[k]? = some s) : dr W k = s.2 := by
  unfold dr
  rw [List.getD_eq_getElem?_getD, h]
  rfl
theorem su_way {n : Nat} {left right : List Bool} {L : List Lb} {W : World2} {row : List Int} (R : ∀ k, k < n → suR left right L k (dr W k) = true) (pa : Path n W row) :
    ∀ (m i : Nat) (x : Int), row.length - i = m → row[i]? = some x → (lbAt L x).1 = false → untilB left right (row.drop i) = false
  | 0, i, x, hm, hx, _ => by
    have := (List.getElem?_eq_some_iff.mp hx).1
    omega
  | m + 1, i, x, hm, hx, hf => by
    obtain ⟨hi, hxx⟩ := List.getElem?_eq_some_iff.mp hx
    obtain ⟨x0, x1⟩ := pa.inn x (List.mem_of_getElem? hx)
    obtain ⟨hr, alt⟩ := su_false (R x.toNat (by omega)) hf
    rw [List.drop_eq_getElem_cons hi, hxx]
    show (if right.getD x.toNat false then true else if left.getD x.toNat false then untilB left right (row.drop (i + 1)) else false) = false
    rw [hr]
    show (if left.getD x.toNat false then untilB left right (row.drop (i + 1)) else false) = false
    rcases alt with hl | hall
    · rw [hl]; rfl
    · cases hl : left.getD x.toNat false with
      | false => rfl
      | true =>
        show untilB left right (row.drop (i + 1)) = false
        by_cases hlast : i + 1 < row.length
        · have hy := List.getElem?_eq_getElem hlast
          obtain ⟨s, hs, hys⟩ := pa.go i x _ hx hy
          rw [dr_of hs] at hall
          exact su_way R pa m (i + 1) _ (by omega) hy (hall _ hys)
        · rw [List.drop_eq_nil_of_le (by omega)]
          rfl
/-- numbers that fall along a row can't go on in a ring -/
theorem fall_le {f : Nat → Int} {len : Nat} (h : ∀ i, i + 1 < len → f (i + 1) ≤ f i) : ∀ (d i : Nat), i + d < len → f (i + d) ≤ f i
  | 0, i, _ => Int.le_refl _
  | d + 1, i, hd => by
    have h1 := fall_le h d i (by omega)
    have h2 := h (i + d) (by omega)
    have e : i + (d + 1) = i + d + 1 := by omega
    rw [e]
    omega
theorem au_way {n : Nat} {left right : List Bool} {L : List Lb} {W : World2} {row : List Int} {bk : Nat} {s : Int} (R : ∀ k, k < n → auR left right L k (dr W k) = true) (pa : Path n W row) (h0 : row[0]? = some s) (ht : (lbAt L s).1 = true)
    (cl : ∃ x y st, row[row.length - 1]? = some x ∧ row[bk]? = some y ∧ W[x.toNat]? = some st ∧ y ∈ st.2) : untilB left right row = true := by
  cases hu : untilB left right row with
  | true => rfl
  | false =>
    exfalso
    -- at every place: True, not reached, and the number falls through every door
    have all : ∀ (i : Nat) (x : Int), row[i]? = some x → (lbAt L x).1 = true ∧ untilB left right (row.drop i) = false := by
      intro i
      induction i with
      | zero =>
        intro x hx
        rw [h0] at hx
        cases hx
        exact ⟨ht, hu⟩
      | succ i ih =>
        intro y hy
        have hi : i < row.length := by have := (List.getElem?_eq_some_iff.mp hy).1; omega
        have hx := List.getElem?_eq_getElem hi
        obtain ⟨h1, h2⟩ := ih _ hx
        obtain ⟨x0, x1⟩ := pa.inn _ (List.mem_of_getElem? hx)
        obtain ⟨z, _, alt⟩ := au_true (R (row[i]).toNat (by omega)) h1
        rw [List.drop_eq_getElem_cons hi] at h2
        have h2 : (if right.getD (row[i]).toNat false then true else if left.getD (row[i]).toNat false then untilB left right (row.drop (i + 1)) else false) = false := h2
        rcases alt with hr | ⟨hl, hd⟩
        · rw [hr] at h2; cases h2
        · obtain ⟨st, hs, hys⟩ := pa.go i _ y hx hy
          rw [dr_of hs] at hd
          refine ⟨(hd y hys).1, ?_⟩
          cases hr : right.getD (row[i]).toNat false with
          | true => rw [hr] at h2; cases h2
          | false => rw [hr, hl] at h2; exact h2
    have fall : ∀ (i : Nat) (x y : Int) (st : List Int × List Int), row[i]? = some x → W[x.toNat]? = some st → y ∈ st.2 → ∃ a b, (lbAt L x).2.1 = some a ∧ (lbAt L y).2.1 = some b ∧ b < a := fun i x y st hx hs hy => by
      obtain ⟨hi, hxx⟩ := List.getElem?_eq_some_iff.mp hx
      obtain ⟨x0, x1⟩ := pa.inn _ (List.mem_of_getElem? hx)
      obtain ⟨h1, h2⟩ := all i x hx
      obtain ⟨z, hz, alt⟩ := au_true (R x.toNat (by omega)) h1
      rw [List.drop_eq_getElem_cons hi, hxx] at h2
      have h2 : (if right.getD x.toNat false then true else if left.getD x.toNat false then untilB left right (row.drop (i + 1)) else false) = false := h2
      rcases alt with hr | ⟨hl, hd⟩
      · rw [hr] at h2; cases h2
      · rw [dr_of hs] at hd
        obtain ⟨_, b, hb, hlt⟩ := hd y hy
        exact ⟨z, b, hz, hb, hlt⟩
    let f : Nat → Int := fun i => ((lbAt L (row.getD i 0)).2.1).getD 0
    have fi : ∀ (i : Nat) (x a : Int), row[i]? = some x → (lbAt L x).2.1 = some a → f i = a := fun i x a hx ha => by
      show ((lbAt L (row.getD i 0)).2.1).getD 0 = a
      rw [List.getD_eq_getElem?_getD, hx]
      show ((lbAt L x).2.1).getD 0 = a
      rw [ha]; rfl
    have mono : ∀ i, i + 1 < row.length → f (i + 1) ≤ f i := fun i hi => by
      have hx := List.getElem?_eq_getElem (show i < row.length by omega)
      have hy := List.getElem?_eq_getElem hi
      obtain ⟨st, hs, hys⟩ := pa.go i _ _ hx hy
      obtain ⟨a, b, ha, hb, hlt⟩ := fall i _ _ st hx hs hys
      rw [fi _ _ _ hx ha, fi _ _ _ hy hb]
      omega
    obtain ⟨x, y, st, hx, hy, hs, hys⟩ := cl
    have hbk := (List.getElem?_eq_some_iff.mp hy).1
    obtain ⟨a, b, ha, hb, hlt⟩ := fall _ _ _ st hx hs hys
    have q := fall_le mono (row.length - 1 - bk) bk (by omega)
    have e : bk + (row.length - 1 - bk) = row.length - 1 := by omega
    rw [e, fi _ _ _ hx ha, fi _ _ _ hy hb] at q
    omega
theorem tr_at {here : List Bool} {row : List Int} {bk : Nat} (h : (trOf here row).drop bk |>.contains true) : ∃ (j : Nat) (x : Int), bk ≤ j ∧ row[j]? = some x ∧ here.getD x.toNat false = true := by
  have m := List.contains_iff_mem.mp h
  obtain ⟨i, hi, e⟩ := List.getElem_of_mem m
  have e1 : ((trOf here row).drop bk)[i]? = some true := by rw [List.getElem?_eq_getElem hi, e]
  rw [List.getElem?_drop] at e1
  unfold trOf at e1
  rw [List.getElem?_map] at e1
  cases hx : row[bk + i]? with
  | none => rw [hx] at e1; cases e1
  | some x =>
    rw [hx] at e1
    exact ⟨bk + i, x, by omega, hx, Option.some.inj e1⟩
theorem sa_way {n : Nat} {here : List Bool} {L : List Lb} {W : World2} {row : List Int} {bk : Nat} {s : Int} (R : ∀ k, k < n → saR here L k (dr W k) = true) (pa : Path n W row) (h0 : row[0]? = some s) (ht : (lbAt L s).1 = false)
    (cl : ∃ x y st, row[row.length - 1]? = some x ∧ row[bk]? = some y ∧ W[x.toNat]? = some st ∧ y ∈ st.2) : ((trOf here row).drop bk).contains true = false := by
  cases hu : ((trOf here row).drop bk).contains true with
  | false => rfl
  | true =>
    exfalso
    obtain ⟨j, xj, hj, hxj, hh⟩ := tr_at hu
    have all : ∀ (i : Nat) (x : Int), row[i]? = some x → (lbAt L x).1 = false := by
      intro i
      induction i with
      | zero =>
        intro x hx
        rw [h0] at hx
        cases hx
        exact ht
      | succ i ih =>
        intro y hy
        have hi : i < row.length := by have := (List.getElem?_eq_some_iff.mp hy).1; omega
        have hx := List.getElem?_eq_getElem hi
        obtain ⟨x0, x1⟩ := pa.inn _ (List.mem_of_getElem? hx)
        obtain ⟨z, _, hd⟩ := sa_false (R (row[i]).toNat (by omega)) (ih _ hx)
        obtain ⟨st, hs, hys⟩ := pa.go i _ y hx hy
        rw [dr_of hs] at hd
        exact (hd y hys).1
    have fall : ∀ (i : Nat) (x y : Int) (st : List Int × List Int), row[i]? = some x → W[x.toNat]? = some st → y ∈ st.2 → ∃ a b, (lbAt L x).2.1 = some a ∧ (lbAt L y).2.1 = some b ∧ b ≤ a ∧ (here.getD x.toNat false = true → b < a) := fun i x y st hx hs hy => by
      obtain ⟨x0, x1⟩ := pa.inn _ (List.mem_of_getElem? hx)
      obtain ⟨z, hz, hd⟩ := sa_false (R x.toNat (by omega)) (all i x hx)
      rw [dr_of hs] at hd
      obtain ⟨_, b, hb, hlt⟩ := hd y hy
      refine ⟨z, b, hz, hb, ?_, fun hh => ?_⟩
      · cases hh : here.getD x.toNat false with
        | true => rw [hh] at hlt; have hlt : b < z + 1 - 1 := hlt; omega
        | false => rw [hh] at hlt; have hlt : b < z + 1 - 0 := hlt; omega
      · rw [hh] at hlt
        have hlt : b < z + 1 - 1 := hlt
        omega
    let f : Nat → Int := fun i => ((lbAt L (row.getD i 0)).2.1).getD 0
    have fi : ∀ (i : Nat) (x a : Int), row[i]? = some x → (lbAt L x).2.1 = some a → f i = a := fun i x a hx ha => by
      show ((lbAt L (row.getD i 0)).2.1).getD 0 = a
      rw [List.getD_eq_getElem?_getD, hx]
      show ((lbAt L x).2.1).getD 0 = a
      rw [ha]; rfl
    have mono : ∀ i, i + 1 < row.length → f (i + 1) ≤ f i := fun i hi => by
      have hx := List.getElem?_eq_getElem (show i < row.length by omega)
      have hy := List.getElem?_eq_getElem hi
      obtain ⟨st, hs, hys⟩ := pa.go i _ _ hx hy
      obtain ⟨a, b, ha, hb, hle, _⟩ := fall i _ _ st hx hs hys
      rw [fi _ _ _ hx ha, fi _ _ _ hy hb]
      exact hle
    obtain ⟨x, y, st, hx, hy, hs, hys⟩ := cl
    have hbk := (List.getElem?_eq_some_iff.mp hy).1
    have hjl := (List.getElem?_eq_some_iff.mp hxj).1
    obtain ⟨a, b, ha, hb, hle, hstr⟩ := fall _ _ _ st hx hs hys
    have q1 := fall_le mono (j - bk) bk (by omega)
    have e1 : bk + (j - bk) = j := by omega
    rw [e1, fi _ _ _ hy hb] at q1
    by_cases hlast : j + 1 < row.length
    · have hy2 := List.getElem?_eq_getElem hlast
      obtain ⟨st2, hs2, hys2⟩ := pa.go j _ _ hxj hy2
      obtain ⟨a2, b2, ha2, hb2, _, hstr2⟩ := fall j _ _ st2 hxj hs2 hys2
      have lt2 := hstr2 hh
      have q2 := fall_le mono (row.length - 1 - (j + 1)) (j + 1) (by omega)
      have e2 : j + 1 + (row.length - 1 - (j + 1)) = row.length - 1 := by omega
      rw [e2, fi _ _ _ hx ha, fi _ _ _ hy2 hb2] at q2
      rw [fi _ _ _ hxj ha2] at q1
      omega
    · have ej : j = row.length - 1 := by omega
      subst ej
      rw [hx] at hxj
      cases hxj
      have lt2 := hstr hh
      rw [fi _ _ _ hx ha] at q1
      omega
theorem aa_way {n : Nat} {here : List Bool} {L : List Lb} {W : World2} {row : List Int} {bk : Nat} {s : Int} (R : ∀ k, k < n → aaR here L k (dr W k) = true) (pa : Path n W row) (h0 : row[0]? = some s) (ht : (lbAt L s).1 = true)
    (cl : ∃ x y st, row[row.length - 1]? = some x ∧ row[bk]? = some y ∧ W[x.toNat]? = some st ∧ y ∈ st.2) : ((trOf here row).drop bk).contains true = true := by
  cases hu : ((trOf here row).drop bk).contains true with
  | true => rfl
  | false =>
    exfalso
    have none_ : ∀ (j : Nat) (x : Int), bk ≤ j → row[j]? = some x → here.getD x.toNat false = false := fun j x hj hx => by
      cases hh : here.getD x.toNat false with
      | false => rfl
      | true =>
        have m : true ∈ (trOf here row).drop bk := by
          have e1 : ((trOf here row).drop bk)[j - bk]? = some true := by
            rw [List.getElem?_drop]
            unfold trOf
            rw [List.getElem?_map, show bk + (j - bk) = j by omega, hx]
            exact congrArg some hh
          exact List.mem_of_getElem? e1
        rw [List.contains_iff_mem.mpr m] at hu
        cases hu
    have all : ∀ (i : Nat) (x : Int), row[i]? = some x → (lbAt L x).1 = true := by
      intro i
      induction i with
      | zero =>
        intro x hx
        rw [h0] at hx
        cases hx
        exact ht
      | succ i ih =>
        intro y hy
        have hi : i < row.length := by have := (List.getElem?_eq_some_iff.mp hy).1; omega
        have hx := List.getElem?_eq_getElem hi
        obtain ⟨x0, x1⟩ := pa.inn _ (List.mem_of_getElem? hx)
        obtain ⟨z, _, hd, _⟩ := aa_true (R (row[i]).toNat (by omega)) (ih _ hx)
        obtain ⟨st, hs, hys⟩ := pa.go i _ y hx hy
        rw [dr_of hs] at hd
        exact hd y hys
    have fall : ∀ (i : Nat) (x y : Int) (st : List Int × List Int), bk ≤ i → row[i]? = some x → W[x.toNat]? = some st → y ∈ st.2 → ∃ a b, (lbAt L x).2.1 = some a ∧ (lbAt L y).2.1 = some b ∧ b < a := fun i x y st hb hx hs hy => by
      obtain ⟨x0, x1⟩ := pa.inn _ (List.mem_of_getElem? hx)
      obtain ⟨z, hz, _, hd⟩ := aa_true (R x.toNat (by omega)) (all i x hx)
      rw [dr_of hs] at hd
      obtain ⟨b, hb, hlt⟩ := hd (none_ i x hb hx) y hy
      exact ⟨z, b, hz, hb, hlt⟩
    let f : Nat → Int := fun i => ((lbAt L (row.getD (bk + i) 0)).2.1).getD 0
    have fi : ∀ (i : Nat) (x a : Int), row[bk + i]? = some x → (lbAt L x).2.1 = some a → f i = a := fun i x a hx ha => by
      show ((lbAt L (row.getD (bk + i) 0)).2.1).getD 0 = a
      rw [List.getD_eq_getElem?_getD, hx]
      show ((lbAt L x).2.1).getD 0 = a
      rw [ha]; rfl
    have mono : ∀ i, i + 1 < row.length - bk → f (i + 1) ≤ f i := fun i hi => by
      have hx := List.getElem?_eq_getElem (show bk + i < row.length by omega)
      have hy := List.getElem?_eq_getElem (show bk + (i + 1) < row.length by omega)
      obtain ⟨st, hs, hys⟩ := pa.go (bk + i) _ _ hx hy
      obtain ⟨a, b, ha, hb, hlt⟩ := fall _ _ _ st (by omega) hx hs hys
      rw [fi _ _ _ hx ha, fi _ _ _ hy hb]
      omega
    obtain ⟨x, y, st, hx, hy, hs, hys⟩ := cl
    have hbk := (List.getElem?_eq_some_iff.mp hy).1
    obtain ⟨a, b, ha, hb, hlt⟩ := fall _ _ _ st (by omega) hx hs hys
    have q := fall_le mono (row.length - 1 - bk) 0 (by omega)
    have e : 0 + (row.length - 1 - bk) = row.length - 1 - bk := by omega
    have hx' : row[bk + (row.length - 1 - bk)]? = some x := by rw [show bk + (row.length - 1 - bk) = row.length - 1 by omega]; exact hx
    rw [e, fi _ _ _ hx' ha, fi 0 _ _ hy hb] at q
    omega
end Ws
/-! ## what the laws ask of the program's four, and sizes -/
namespace Ws
open PySem L2
def spUntil (Rf : List Bool → List Bool → List Lb → Nat → List Int → Bool) : Sp := fun vs H Q _ => ∃ (a b c : Addr) (n : Nat) (W : World2) (left right : List Bool), vs = [.ref a, .ref b, .ref c] ∧ DAt H (.ref a) (wdat W) ∧ Valid n 200 W ∧ 1 ≤ n ∧ n ≤ 40 ∧
  H b = some (.lst (left.map V.bl)) ∧ H c = some (.lst (right.map V.bl)) ∧ left.length = n ∧ right.length = n ∧
  ∀ (v : V) (L : List Lb) (H' : Hp), Same H H' → DAt H' v (lsdat L) → L.length = n → (∀ k, k < n → lbOk (L.getD k default) (dr W k) = true) → (∀ k, k < n → Rf left right L k (dr W k) = true) → Q v H'
def spAgain (Rf : List Bool → List Lb → Nat → List Int → Bool) : Sp := fun vs H Q _ => ∃ (a b : Addr) (n : Nat) (W : World2) (here : List Bool), vs = [.ref a, .ref b] ∧ DAt H (.ref a) (wdat W) ∧ Valid n 200 W ∧ 1 ≤ n ∧ n ≤ 40 ∧
  H b = some (.lst (here.map V.bl)) ∧ here.length = n ∧
  ∀ (v : V) (L : List Lb) (H' : Hp), Same H H' → DAt H' v (lsdat L) → L.length = n → (∀ k, k < n → lbOk (L.getD k default) (dr W k) = true) → (∀ k, k < n → Rf here L k (dr W k) = true) → Q v H'
def spLaw (K : PySem.W.Frag) : Sp := fun vs H Q _ => ∃ (a : Addr) (ns : List Int), vs = [.ref a] ∧ SqL K H a (ns.map V.int) ∧ ns.length ≤ 63 ∧ ∀ H', Q (.bl true) H'
theorem cut_ints (ns : List Int) (lo hi : Option Int) : ∃ cs : List Int, cutV (ns.map V.int) lo hi = cs.map V.int ∧ cs.length ≤ ns.length := by
  unfold cutV
  refine ⟨(ns.drop _).take _, by rw [List.map_take, List.map_drop], ?_⟩
  rw [List.length_take, List.length_drop]
  omega
theorem wts_ints : ∀ l : List Int, wts (l.map .int) = l.length
  | [] => rfl
  | x :: r => by
    have h := wts_ints r
    show 1 + wts (r.map .int) = r.length + 1
    omega
theorem wts_bools : ∀ l : List Bool, wts (l.map .bl) = l.length
  | [] => rfl
  | x :: r => by
    have h := wts_bools r
    show 1 + wts (r.map .bl) = r.length + 1
    omega
theorem wts_world {b : Nat} : ∀ (W : World2), (∀ s ∈ W, s.1.length ≤ b ∧ s.2.length ≤ b) → wts (W.map sdat) ≤ W.length * (2 * b + 3)
  | [], _ => Nat.zero_le _
  | s :: r, h => by
    have q := wts_world r fun t ht => h t (List.mem_cons_of_mem _ ht)
    have q1 := h s List.mem_cons_self
    have e : (sdat s).wt = 1 + (1 + wts (s.1.map .int) + (1 + wts (s.2.map .int) + 0)) := rfl
    rw [wts_ints, wts_ints] at e
    show (sdat s).wt + wts (r.map sdat) ≤ (r.length + 1) * (2 * b + 3)
    rw [Nat.succ_mul]
    omega
theorem wdat_wt {n b : Nat} {W : World2} (h : Valid n b W) : (wdat W).wt ≤ 1 + n * (2 * b + 3) := by
  have q := wts_world (b := b) W fun s hs => ⟨(h.all s hs).2.2.1, (h.all s hs).2.2.2⟩
  rw [h.len] at q
  show 1 + wts (W.map sdat) ≤ _
  omega
theorem dbools_wt (l : List Bool) : (dbools l).wt = 1 + l.length := by
  show 1 + wts (l.map .bl) = _
  rw [wts_bools]
theorem lst_ref {G : Hp} {v : V} {ds : List Dat} (h : DAt G v (.lst ds)) : ∃ a, v = .ref a := by
  obtain ⟨a, _, e, _⟩ := DAt.lst_inv h
  exact ⟨a, e⟩
theorem ar_true {n : Nat} {L : List Lb} {W : World2} (h1 : L.length = n) (h2 : W.length = n) (h : ∀ k, k < n → lbOk (L.getD k default) (dr W k) = true) : arB L W = true := by
  unfold arB
  rw [decide_eq_true (by omega), Bool.true_and, List.all_eq_true]
  exact fun k hk => h k (by have := List.mem_range.mp hk; omega)
/-- the doors of the k-th state, in the heap -/
theorem doors_at {H : Hp} {b : Addr} {n c : Nat} {W : World2} (h : DAt H (.ref b) (wdat W)) (hW : Valid n c W) {k : Nat} (hk : k < n) : ∃ us t m d, H b = some (.lst us) ∧ atI us (k : Int) = some (.ref t) ∧ H t = some (.tup [.ref m, .ref d]) ∧ H d = some (.lst ((dr W k).map V.int)) ∧ (∀ e ∈ dr W k, 0 ≤ e ∧ e < (n : Int)) ∧ (dr W k).length ≤ c := by
  obtain ⟨b', us, e, hb, hu⟩ := DAt.lst_inv h
  cases e
  have hi : k < W.length := by rw [hW.len]; exact hk
  obtain ⟨u, eu, du⟩ := hu.nth hi
  obtain ⟨t, m, d, rfl, et, em, ed⟩ := sdat_inv du
  have e : dr W k = W[k].2 := by unfold dr; rw [getD_eq hi]
  have al := hW.all _ (List.getElem_mem hi)
  rw [e]
  exact ⟨us, t, m, d, hb, atI_nat eu, et, ed, al.2.1, al.2.2.2⟩
theorem own_of {l : Lb} {n : Nat} {doors : List Int} (h : lbOk l doors = true) (inn : ∀ e ∈ doors, 0 ≤ e ∧ e < (n : Int)) : ∀ e, l.2.2 = some e → 0 ≤ e ∧ e < (n : Int) := fun e he => by
  unfold lbOk at h
  rw [Bool.and_eq_true] at h
  have h2 := h.2
  rw [he] at h2
  exact inn e (of_decide_eq_true h2)
theorem iteB {b c : Bool} {A B : Prop} (e : b = c) (h : if c = true then A else B) : if b = true then A else B := by rw [e]; exact h
end Ws

/-! ## the labels of the program: what they are, without the heap -/
namespace Ws
def doorTo (doors : List Int) (want : List Bool) : Option Int := doors.find? fun e => want.getD e.toNat false
def trs (L : List Lb) : List Bool := L.map (·.1)
def joinL (sm : Bool) (doors : List Int) (reached : List Bool) (m : Int) : Lb :=
  if sm then match doorTo doors reached with
    | none => (false, none, none)
    | some e => (true, some m, some e)
  else if doors.all (fun e => reached.getD e.toNat false) then (true, some m, none) else (false, none, none)
theorem trs_at (L : List Lb) (j : Nat) : (trs L).getD j false = (L.getD j default).1 := by
  unfold trs
  rw [List.getD_eq_getElem?_getD, List.getD_eq_getElem?_getD, List.getElem?_map]
  cases L[j]? <;> rfl
theorem doorTo_some {doors : List Int} {want : List Bool} {e : Int} (h : doorTo doors want = some e) : e ∈ doors ∧ want.getD e.toNat false = true :=
  ⟨List.mem_of_find?_eq_some h, List.find?_some (p := fun e : Int => want.getD e.toNat false) h⟩
theorem doorTo_none {doors : List Int} {want : List Bool} (h : doorTo doors want = none) : ∀ e ∈ doors, want.getD e.toNat false = false := fun e he => by
  have := List.find?_eq_none.mp h e he
  simpa using this
theorem doorTo_has {doors : List Int} {want : List Bool} {e : Int} (h : e ∈ doors) (w : want.getD e.toNat false = true) : ∃ d, doorTo doors want = some d := by
  cases q : doorTo doors want with
  | some d => exact ⟨d, rfl⟩
  | none => rw [doorTo_none q e h] at w; cases w
theorem dr_in {n b : Nat} {W : World2} (h : Valid n b W) {k : Nat} (hk : k < n) : dr W k ≠ [] ∧ ∀ e ∈ dr W k, 0 ≤ e ∧ e < (n : Int) := by
  have hi : k < W.length := by rw [h.len]; exact hk
  have e : dr W k = W[k].2 := by
    unfold dr
    rw [List.getD_eq_getElem?_getD, List.getElem?_eq_getElem hi]
    rfl
  rw [e]
  exact ⟨(h.all _ (List.getElem_mem hi)).1, (h.all _ (List.getElem_mem hi)).2.1⟩
/-- what a True label of a grown row of labels says -/
def TruOk (sm : Bool) (W : World2) (left : List Bool) (L : List Lb) (m : Int) (k : Nat) : Prop :=
  ∃ x : Int, 1 ≤ x ∧ x ≤ m ∧ left.getD k false = true ∧
    ((sm = true ∧ ∃ d ∈ dr W k, L.getD k default = (true, some x, some d) ∧ (lbAt L d).1 = true ∧ (lbAt L d).2.1 = some (x - 1)) ∨
     (sm = false ∧ L.getD k default = (true, some x, none) ∧ ∀ e ∈ dr W k, (lbAt L e).1 = true ∧ ∃ y, (lbAt L e).2.1 = some y ∧ y < x))
structure GrowInv (sm : Bool) (W : World2) (n : Nat) (left right : List Bool) (m : Int) (L : List Lb) : Prop where
  len : L.length = n
  m0 : 0 ≤ m
  base : ∀ k, k < n → right.getD k false = true → L.getD k default = (true, some 0, none)
  tru : ∀ k, k < n → right.getD k false = false → (L.getD k default).1 = true → TruOk sm W left L m k
  fls : ∀ k, k < n → (L.getD k default).1 = false → L.getD k default = (false, none, none)
  front : sm = true → ∀ k, k < n → (L.getD k default).1 = false → left.getD k false = true → ∀ e ∈ dr W k, (lbAt L e).1 = true → (lbAt L e).2.1 = some m
theorem GrowInv.num {sm : Bool} {W : World2} {n : Nat} {left right : List Bool} {m : Int} {L : List Lb} (g : GrowInv sm W n left right m L) {k : Nat} (hk : k < n) (h : (L.getD k default).1 = true) :
    ∃ y, (L.getD k default).2.1 = some y ∧ 0 ≤ y ∧ y ≤ m := by
  cases hr : right.getD k false with
  | true =>
    refine ⟨0, ?_, Int.le_refl _, g.m0⟩
    rw [g.base k hk hr]
  | false =>
    obtain ⟨x, x1, xm, _, h2 | h2⟩ := g.tru k hk hr h
    · obtain ⟨_, d, _, e, _⟩ := h2
      exact ⟨x, by rw [e], by omega, xm⟩
    · exact ⟨x, by rw [h2.2.1], by omega, xm⟩
theorem join_false {sm : Bool} {doors : List Int} {r : List Bool} {m : Int} (h : (joinL sm doors r m).1 = false) : joinL sm doors r m = (false, none, none) := by
  unfold joinL at h ⊢
  cases sm with
  | true =>
    simp only [if_true] at h ⊢
    cases q : doorTo doors r with
    | none => rfl
    | some e => rw [q] at h; cases h
  | false =>
    simp only [Bool.false_eq_true, if_false] at h ⊢
    cases q : doors.all (fun e => r.getD e.toNat false) with
    | false => rfl
    | true => rw [q] at h; cases h
theorem join_num {sm : Bool} {doors : List Int} {r : List Bool} {m : Int} (h : (joinL sm doors r m).1 = true) : (joinL sm doors r m).2.1 = some m := by
  unfold joinL at h ⊢
  cases sm with
  | true =>
    simp only [if_true] at h ⊢
    cases q : doorTo doors r with
    | none => rw [q] at h; cases h
    | some e => rfl
  | false =>
    simp only [Bool.false_eq_true, if_false] at h ⊢
    cases q : doors.all (fun e => r.getD e.toNat false) with
    | false => rw [q] at h; cases h
    | true => rfl
theorem GrowInv.start {sm : Bool} {W : World2} {n : Nat} {left right : List Bool} {L : List Lb} (hl : L.length = n)
    (h : ∀ k, k < n → L.getD k default = if right.getD k false then (true, some 0, none) else (false, none, none)) (b : Nat) (hW : Valid n b W) : GrowInv sm W n left right 0 L := by
  refine ⟨hl, Int.le_refl _, fun k hk hr => ?_, fun k hk hr ht => ?_, fun k hk hf => ?_, fun _ k hk hf hl e he ht => ?_⟩
  · rw [h k hk, hr]; rfl
  · rw [h k hk, hr] at ht; cases ht
  · rw [h k hk] at hf ⊢
    cases hr : right.getD k false with
    | true => rw [hr] at hf; cases hf
    | false => rfl
  · have hb := (dr_in hW hk).2 e he
    have he' : e.toNat < n := by omega
    unfold lbAt at ht ⊢
    rw [h _ he'] at ht ⊢
    cases hr : right.getD e.toNat false with
    | true => rfl
    | false => rw [hr] at ht; cases ht
theorem GrowInv.step {sm : Bool} {W : World2} {n b : Nat} {left right : List Bool} {m : Int} {L L' : List Lb} (g : GrowInv sm W n left right m L) (hW : Valid n b W) (hl : L'.length = n)
    (h : ∀ k, k < n → L'.getD k default = if left.getD k false && !(L.getD k default).1 then joinL sm (dr W k) (trs L) (m + 1) else L.getD k default) : GrowInv sm W n left right (m + 1) L' := by
  have keep : ∀ k, k < n → (L.getD k default).1 = true → L'.getD k default = L.getD k default := fun k hk ht => by
    rw [h k hk, ht]
    simp
  have keepd : ∀ (k : Nat) (e : Int), k < n → e ∈ dr W k → (lbAt L e).1 = true → lbAt L' e = lbAt L e := fun k e hk he ht => by
    have := (dr_in hW hk).2 e he
    exact keep e.toNat (by omega) ht
  have m0 := g.m0
  refine ⟨hl, by omega, fun k hk hr => ?_, fun k hk hr ht => ?_, fun k hk hf => ?_, fun hs k hk hf hle e he ht => ?_⟩
  · have := g.base k hk hr
    rw [keep k hk (by rw [this]), this]
  · cases hp : (L.getD k default).1 with
    | true =>
      obtain ⟨x, x1, xm, hle, h2 | h2⟩ := g.tru k hk hr hp
      · obtain ⟨hs, d, hd, e1, e2, e3⟩ := h2
        refine ⟨x, x1, by omega, hle, .inl ⟨hs, d, hd, by rw [keep k hk hp, e1], ?_, ?_⟩⟩
        · rw [keepd k d hk hd e2, e2]
        · rw [keepd k d hk hd e2, e3]
      · obtain ⟨hs, e1, e2⟩ := h2
        refine ⟨x, x1, by omega, hle, .inr ⟨hs, by rw [keep k hk hp, e1], fun e he => ?_⟩⟩
        obtain ⟨q1, q2⟩ := e2 e he
        rw [keepd k e hk he q1]
        exact ⟨q1, q2⟩
    | false =>
      have e := h k hk
      rw [hp] at e
      cases hle : left.getD k false with
      | false => rw [hle] at e; rw [e] at ht; simp only [Bool.false_and] at ht; rw [if_neg Bool.false_ne_true, hp] at ht; cases ht
      | true =>
        rw [hle] at e
        have e : L'.getD k default = joinL sm (dr W k) (trs L) (m + 1) := e
        rw [e] at ht
        refine ⟨m + 1, by omega, Int.le_refl _, hle, ?_⟩
        cases sm with
        | true =>
          unfold joinL at e ht
          simp only [if_true] at e ht
          cases q : doorTo (dr W k) (trs L) with
          | none => rw [q] at ht; cases ht
          | some d =>
            rw [q] at e
            obtain ⟨hd, hw⟩ := doorTo_some q
            rw [trs_at] at hw
            refine .inl ⟨rfl, d, hd, e, ?_, ?_⟩
            · rw [keepd k d hk hd hw]; exact hw
            · rw [keepd k d hk hd hw, g.front rfl k hk hp hle d hd hw]
              congr 1
              omega
        | false =>
          unfold joinL at e ht
          simp only [Bool.false_eq_true, if_false] at e ht
          cases q : (dr W k).all (fun e => (trs L).getD e.toNat false) with
          | false => rw [q] at ht; cases ht
          | true =>
            rw [q] at e
            refine .inr ⟨rfl, e, fun d hd => ?_⟩
            have hw := List.all_eq_true.mp q d hd
            rw [trs_at] at hw
            have hw : (lbAt L d).1 = true := hw
            rw [keepd k d hk hd hw]
            have := (dr_in hW hk).2 d hd
            obtain ⟨y, hy, _, ym⟩ := g.num (k := d.toNat) (by omega) hw
            exact ⟨hw, y, hy, by omega⟩
  · rw [h k hk] at hf ⊢
    cases hc : (left.getD k false && !(L.getD k default).1) with
    | true =>
      rw [hc] at hf
      exact join_false hf
    | false =>
      rw [hc] at hf
      exact g.fls k hk hf
  · have hp : (L.getD k default).1 = false := by
      cases hp : (L.getD k default).1 with
      | false => rfl
      | true => rw [keep k hk hp, hp] at hf; cases hf
    have ej := h k hk
    rw [hp, hle] at ej
    have ej : L'.getD k default = joinL sm (dr W k) (trs L) (m + 1) := ej
    have hb := (dr_in hW hk).2 e he
    cases hpe : (lbAt L e).1 with
    | true =>
      exfalso
      subst hs
      obtain ⟨d, q⟩ := doorTo_has (want := trs L) he (by rw [trs_at]; exact hpe)
      unfold joinL at ej
      rw [q] at ej
      rw [ej] at hf
      cases hf
    | false =>
      have ee : lbAt L' e = if left.getD e.toNat false && !(L.getD e.toNat default).1 then joinL sm (dr W e.toNat) (trs L) (m + 1) else L.getD e.toNat default := h e.toNat (by omega)
      cases hc : (left.getD e.toNat false && !(L.getD e.toNat default).1) with
      | true =>
        rw [hc] at ee
        have ee : lbAt L' e = joinL sm (dr W e.toNat) (trs L) (m + 1) := ee
        rw [ee] at ht ⊢
        exact join_num ht
      | false =>
        rw [hc] at ee
        have ee : lbAt L' e = lbAt L e := ee
        rw [ee, hpe] at ht
        cases ht
/-- no more grows -/
def Still (sm : Bool) (W : World2) (n : Nat) (left : List Bool) (L : List Lb) : Prop := ∀ k, k < n → (L.getD k default).1 = false → left.getD k false = true →
  (sm = true ∧ ∀ e ∈ dr W k, (lbAt L e).1 = false) ∨ (sm = false ∧ ∃ e ∈ dr W k, (lbAt L e).1 = false)
theorem still_of {sm : Bool} {W : World2} {n : Nat} {left : List Bool} {m : Int} {L L' : List Lb}
    (h : ∀ k, k < n → L'.getD k default = if left.getD k false && !(L.getD k default).1 then joinL sm (dr W k) (trs L) (m + 1) else L.getD k default)
    (ng : ∀ k, k < n → (L.getD k default).1 = false → (L'.getD k default).1 = false) (inn : ∀ k, k < n → ∀ e ∈ dr W k, 0 ≤ e ∧ e < (n : Int)) : Still sm W n left L' := fun k hk hf hle => by
  have tt : ∀ j, j < n → (L'.getD j default).1 = (L.getD j default).1 := fun j hj => by
    cases hp : (L.getD j default).1 with
    | false => exact ng j hj hp
    | true =>
      have e := h j hj
      rw [hp, Bool.not_true, Bool.and_false] at e
      have e : L'.getD j default = L.getD j default := e
      rw [e, hp]
  have hp : (L.getD k default).1 = false := by rw [← tt k hk]; exact hf
  have ej := h k hk
  rw [hp, hle] at ej
  have ej : L'.getD k default = joinL sm (dr W k) (trs L) (m + 1) := ej
  rw [ej] at hf
  have q := fun (e : Int) he => tt e.toNat (by have := inn k hk e he; omega)
  cases sm with
  | true =>
    refine .inl ⟨rfl, fun e he => ?_⟩
    have := q e he
    show (L'.getD e.toNat default).1 = false
    rw [this, ← trs_at]
    unfold joinL at hf
    simp only [if_true] at hf
    cases qd : doorTo (dr W k) (trs L) with
    | none => exact doorTo_none qd e he
    | some d => rw [qd] at hf; cases hf
  | false =>
    refine .inr ⟨rfl, ?_⟩
    unfold joinL at hf
    simp only [Bool.false_eq_true, if_false] at hf
    cases qd : (dr W k).all (fun e => (trs L).getD e.toNat false) with
    | true => rw [qd] at hf; cases hf
    | false =>
      rw [List.all_eq_false] at qd
      obtain ⟨e, he, hh⟩ := qd
      refine ⟨e, he, ?_⟩
      show (L'.getD e.toNat default).1 = false
      rw [q e he, ← trs_at]
      simpa using hh
/-- an until for some whose number is 0 wherever T is True -/
def suR2 (left right : List Bool) (L : List Lb) (k : Nat) (doors : List Int) : Bool := suR left right L k doors && (!right.getD k false || decide (L.getD k default = (true, some 0, none)))
theorem su_done {W : World2} {n b : Nat} {left right : List Bool} {m : Int} {L : List Lb} (hW : Valid n b W) (g : GrowInv true W n left right m L) (st : Still true W n left L) :
    ∀ k, k < n → lbOk (L.getD k default) (dr W k) = true ∧ suR2 left right L k (dr W k) = true := fun k hk => by
  unfold suR2
  cases hr : right.getD k false with
  | true =>
    have e := g.base k hk hr
    unfold suR
    rw [e, hr]
    exact ⟨rfl, rfl⟩
  | false =>
    simp only [Bool.not_false, Bool.true_or, Bool.and_true]
    cases ht : (L.getD k default).1 with
    | true =>
      obtain ⟨x, x1, xm, hle, h2 | h2⟩ := g.tru k hk hr ht
      · obtain ⟨_, d, hd, e1, e2, e3⟩ := h2
        unfold suR
        rw [e1, hle]
        refine ⟨?_, ?_⟩
        · show (decide (0 ≤ x) && decide (d ∈ dr W k)) = true
          rw [decide_eq_true (by omega), decide_eq_true hd]
          rfl
        · show (if (decide (x = 0) || !true) = true then false else (lbAt L d).1 && decide ((lbAt L d).2.1 = some (x - 1))) = true
          rw [decide_eq_false (by omega), e2, e3]
          simp
      · exact nomatch h2.1
    | false =>
      have e := g.fls k hk ht
      unfold suR
      rw [e, hr]
      refine ⟨rfl, ?_⟩
      show (!left.getD k false || !((endsOf L (dr W k)).map (·.1)).contains true) = true
      cases hle : left.getD k false with
      | false => rfl
      | true =>
        rcases st k hk ht hle with ⟨_, h⟩ | ⟨h, _⟩
        · have : ((endsOf L (dr W k)).map (·.1)).contains true = false := by
            cases hc : ((endsOf L (dr W k)).map (·.1)).contains true with
            | false => rfl
            | true =>
              have hm := List.contains_iff_mem.mp hc
              obtain ⟨l, hl, el⟩ := List.mem_map.mp hm
              obtain ⟨d, hd, rfl⟩ := List.mem_map.mp hl
              rw [h d hd] at el
              cases el
          rw [this]
          rfl
        · cases h
/-- the labels of an until for all, with the doors of the False ones -/
def fdL (W : World2) (left : List Bool) (L : List Lb) (k : Nat) : Lb :=
  if left.getD k false && !(L.getD k default).1 then (false, none, doorTo (dr W k) ((trs L).map (!·))) else L.getD k default
theorem not_at (l : List Bool) {j : Nat} (h : j < l.length) : (l.map (!·)).getD j false = !l.getD j false := by
  rw [List.getD_eq_getElem?_getD, List.getD_eq_getElem?_getD, List.getElem?_map, List.getElem?_eq_getElem h]
  rfl
theorem au_done {W : World2} {n b : Nat} {left right : List Bool} {m : Int} {L L' : List Lb} (hW : Valid n b W) (g : GrowInv false W n left right m L) (st : Still false W n left L)
    (h : ∀ k, k < n → L'.getD k default = fdL W left L k) :
    ∀ k, k < n → lbOk (L'.getD k default) (dr W k) = true ∧ auR left right L' k (dr W k) = true := fun k hk => by
  have tr : ∀ j, j < n → (L'.getD j default).1 = (L.getD j default).1 := fun j hj => by
    rw [h j hj]
    unfold fdL
    cases hc : (left.getD j false && !(L.getD j default).1) with
    | false => rfl
    | true =>
      rw [Bool.and_eq_true] at hc
      simpa using hc.2
  have same : ∀ j, j < n → (L.getD j default).1 = true → L'.getD j default = L.getD j default := fun j hj ht => by
    rw [h j hj]
    unfold fdL
    rw [ht]
    simp
  have lt : (trs L).length = n := by unfold trs; rw [List.length_map, g.len]
  have inn := (dr_in hW hk).2
  cases ht : (L.getD k default).1 with
  | true =>
    have e0 := same k hk ht
    cases hr : right.getD k false with
    | true =>
      have e := g.base k hk hr
      unfold auR
      rw [e0, e, hr]
      exact ⟨rfl, rfl⟩
    | false =>
      obtain ⟨x, x1, xm, hle, h2 | h2⟩ := g.tru k hk hr ht
      · exact nomatch h2.1
      · obtain ⟨_, e1, e2⟩ := h2
        unfold auR
        rw [e0, e1, hle]
        refine ⟨?_, ?_⟩
        · show (decide (0 ≤ x) && true) = true
          rw [decide_eq_true (by omega)]
          rfl
        · show (if decide (x = 0) = true then right.getD k false else true && lowB (endsOf L' (dr W k)) true x) = true
          rw [decide_eq_false (by omega)]
          show (true && lowB (endsOf L' (dr W k)) true x) = true
          rw [Bool.true_and]
          unfold lowB
          rw [List.all_eq_true]
          intro l hl
          obtain ⟨d, hd, rfl⟩ := List.mem_map.mp hl
          obtain ⟨q1, y, q2, q3⟩ := e2 d hd
          have hb := inn d hd
          have ed : lbAt L' d = lbAt L d := same d.toNat (by omega) q1
          rw [ed, q1, q2]
          simp [q3]
  | false =>
    have hr : right.getD k false = false := by
      cases hr : right.getD k false with
      | false => rfl
      | true => rw [g.base k hk hr] at ht; cases ht
    have e := h k hk
    unfold fdL at e
    rw [ht] at e
    cases hle : left.getD k false with
    | false =>
      rw [hle, g.fls k hk ht] at e
      have e : L'.getD k default = (false, none, none) := e
      unfold auR
      rw [e, hr, hle]
      exact ⟨rfl, rfl⟩
    | true =>
      rw [hle] at e
      have e : L'.getD k default = (false, none, doorTo (dr W k) ((trs L).map (!·))) := e
      rcases st k hk ht hle with ⟨hh, _⟩ | ⟨_, d0, hd0, hf0⟩
      · cases hh
      · have hb0 := inn d0 hd0
        obtain ⟨d, q⟩ := doorTo_has (want := (trs L).map (!·)) hd0 (by rw [not_at _ (by omega), trs_at]; show (!(lbAt L d0).1) = true; rw [hf0]; rfl)
        rw [q] at e
        obtain ⟨hd, hw⟩ := doorTo_some q
        have hb := inn d hd
        rw [not_at _ (by omega), trs_at] at hw
        have hw : (lbAt L d).1 = false := by
          cases q2 : (lbAt L d).1 with
          | false => rfl
          | true =>
            have q2 : (L.getD d.toNat default).1 = true := q2
            rw [q2] at hw
            cases hw
        unfold auR
        rw [e, hr, hle]
        refine ⟨?_, ?_⟩
        · show (true && decide (d ∈ dr W k)) = true
          rw [decide_eq_true hd]
          rfl
        · show (true && !(lbAt L' d).1) = true
          have : (lbAt L' d).1 = false := by
            have := tr d.toNat (by omega)
            exact this.trans hw
          rw [this]
          rfl
end Ws

namespace Ws
def allT (n : Nat) : List Bool := List.replicate n true
theorem allT_at {n k : Nat} (h : k < n) : (allT n).getD k false = true := by
  unfold allT
  rw [List.getD_eq_getElem?_getD, List.getElem?_replicate, if_pos h]
  rfl
theorem su2_su {left right : List Bool} {L : List Lb} {k : Nat} {doors : List Int} (h : suR2 left right L k doors = true) : suR left right L k doors = true := by
  unfold suR2 at h
  rw [Bool.and_eq_true] at h
  exact h.1
theorem su2_right {left right : List Bool} {L : List Lb} {k : Nat} {doors : List Int} (h : suR2 left right L k doors = true) (hr : right.getD k false = true) : L.getD k default = (true, some 0, none) := by
  unfold suR2 at h
  rw [Bool.and_eq_true, hr] at h
  exact of_decide_eq_true h.2
/-- what suR says -/
theorem su_cases {left right : List Bool} {L : List Lb} {k : Nat} {doors : List Int} (h : suR left right L k doors = true) :
    (L.getD k default = (false, none, none) ∧ right.getD k false = false ∧ (left.getD k false = false ∨ ∀ e ∈ doors, (lbAt L e).1 = false)) ∨
    (L.getD k default = (true, some 0, none) ∧ right.getD k false = true) ∨
    ∃ x d, x ≠ 0 ∧ L.getD k default = (true, some x, some d) ∧ left.getD k false = true ∧ (lbAt L d).1 = true ∧ (lbAt L d).2.1 = some (x - 1) := by
  unfold suR at h
  generalize hl : L.getD k default = l at h
  obtain ⟨lt, ln, ld⟩ := l
  cases lt with
  | false =>
    cases ln with
    | some x => cases h
    | none =>
      cases ld with
      | some x => cases h
      | none =>
        have h : (if right.getD k false = true then false else !left.getD k false || !((endsOf L doors).map (·.1)).contains true) = true := h
        cases hr : right.getD k false with
        | true => rw [hr] at h; cases h
        | false =>
          rw [hr] at h
          have h : (!left.getD k false || !((endsOf L doors).map (·.1)).contains true) = true := h
          refine .inl ⟨rfl, rfl, ?_⟩
          cases hle : left.getD k false with
          | false => exact .inl rfl
          | true =>
            rw [hle] at h
            have h : (!((endsOf L doors).map (·.1)).contains true) = true := h
            refine .inr fun e he => ?_
            cases hb : (lbAt L e).1 with
            | false => rfl
            | true =>
              have m : true ∈ (endsOf L doors).map (·.1) := List.mem_map.mpr ⟨lbAt L e, List.mem_map.mpr ⟨e, he, rfl⟩, hb⟩
              rw [List.contains_iff_mem.mpr m] at h
              cases h
  | true =>
    cases ln with
    | none => cases ld <;> cases h
    | some x =>
      cases ld with
      | none =>
        have h : (decide (x = 0) && right.getD k false) = true := h
        rw [Bool.and_eq_true, decide_eq_true_eq] at h
        exact .inr (.inl ⟨by rw [h.1], h.2⟩)
      | some d =>
        have h : (if (decide (x = 0) || !left.getD k false) = true then false else (lbAt L d).1 && decide ((lbAt L d).2.1 = some (x - 1))) = true := h
        by_cases hx : x = 0
        · rw [decide_eq_true hx] at h; cases h
        · rw [decide_eq_false hx] at h
          cases hle : left.getD k false with
          | false => rw [hle] at h; cases h
          | true =>
            rw [hle] at h
            have h : ((lbAt L d).1 && decide ((lbAt L d).2.1 = some (x - 1))) = true := h
            rw [Bool.and_eq_true, decide_eq_true_eq] at h
            exact .inr (.inr ⟨x, d, hx, rfl, rfl, h.1, h.2⟩)
/-- right labels of an until for some, of all states -/
structure SuAll (W : World2) (n : Nat) (left right : List Bool) (L : List Lb) : Prop where
  ok : ∀ k, k < n → lbOk (L.getD k default) (dr W k) = true
  su : ∀ k, k < n → suR left right L k (dr W k) = true
theorem SuAll.num {W : World2} {n : Nat} {left right : List Bool} {L : List Lb} (h : SuAll W n left right L) {k : Nat} (hk : k < n) {x : Int} (e : (L.getD k default).2.1 = some x) : 0 ≤ x := by
  have q := h.ok k hk
  unfold lbOk at q
  rw [e, Bool.and_eq_true] at q
  exact of_decide_eq_true q.1
theorem SuAll.door {W : World2} {n : Nat} {left right : List Bool} {L : List Lb} (h : SuAll W n left right L) {k : Nat} (hk : k < n) {d : Int} (e : (L.getD k default).2.2 = some d) : d ∈ dr W k := by
  have q := h.ok k hk
  unfold lbOk at q
  rw [e, Bool.and_eq_true] at q
  exact of_decide_eq_true q.2
/-- an induction along the numbers of True labels -/
theorem SuAll.ind {W : World2} {n b : Nat} {left right : List Bool} {L : List Lb} (h : SuAll W n left right L) (hW : Valid n b W) (P : Nat → Prop)
    (p0 : ∀ k, k < n → right.getD k false = true → P k) (p1 : ∀ k d, k < n → left.getD k false = true → d ∈ dr W k → P d.toNat → P k) :
    ∀ k, k < n → (L.getD k default).1 = true → P k := by
  have main : ∀ (m k : Nat) (x : Int), k < n → (L.getD k default).1 = true → (L.getD k default).2.1 = some x → x.toNat ≤ m → P k := by
    intro m
    induction m with
    | zero =>
      intro k x hk ht hx hm
      rcases su_cases (h.su k hk) with ⟨e, _⟩ | ⟨_, hr⟩ | ⟨y, d, hy, e, _⟩
      · rw [e] at ht; cases ht
      · exact p0 k hk hr
      · have := h.num hk hx
        rw [e] at hx
        have hx : some y = some x := hx
        cases hx
        omega
    | succ m ih =>
      intro k x hk ht hx hm
      rcases su_cases (h.su k hk) with ⟨e, _⟩ | ⟨_, hr⟩ | ⟨y, d, hy, e, hl, hd1, hd2⟩
      · rw [e] at ht; cases ht
      · exact p0 k hk hr
      · have h0 := h.num hk hx
        have hd := h.door hk (d := d) (by rw [e])
        rw [e] at hx
        have hx : some y = some x := hx
        cases hx
        have hb := (dr_in hW hk).2 d hd
        exact p1 k d hk hl hd (ih d.toNat (x - 1) (by omega) hd1 hd2 (by omega))
  intro k hk ht
  rcases su_cases (h.su k hk) with ⟨e, _⟩ | ⟨e, _⟩ | ⟨y, d, hy, e, _⟩
  · rw [e] at ht; cases ht
  · exact main _ k 0 hk ht (by rw [e]) (Nat.le_refl _)
  · exact main _ k y hk ht (by rw [e]) (Nat.le_refl _)
theorem su_unique {W : World2} {n b : Nat} {left right : List Bool} {L L' : List Lb} (hW : Valid n b W) (h : SuAll W n left right L) (h' : SuAll W n left right L') : ∀ k, k < n → (L.getD k default).1 = true → (L'.getD k default).1 = true :=
  h.ind hW (fun k => (L'.getD k default).1 = true)
    (fun k hk hr => by
      rcases su_cases (h'.su k hk) with ⟨_, e, _⟩ | ⟨e, _⟩ | ⟨y, d, _, e, _⟩
      · rw [hr] at e; cases e
      · rw [e]
      · rw [e])
    (fun k d hk hl hd ih => by
      rcases su_cases (h'.su k hk) with ⟨_, _, e | e⟩ | ⟨e, _⟩ | ⟨y, d, _, e, _⟩
      · rw [hl] at e; cases e
      · have ih : (lbAt L' d).1 = true := ih
        rw [e d hd] at ih; cases ih
      · rw [e]
      · rw [e])
/-! ### how many times -/
def keptOf (N : List (Option Int)) : List Bool := N.map fun x => x.isNone
theorem kept_at {N : List (Option Int)} {k : Nat} (h : k < N.length) : (keptOf N).getD k false = (N.getD k none).isNone := by
  unfold keptOf
  rw [List.getD_eq_getElem?_getD, List.getD_eq_getElem?_getD, List.getElem?_map, List.getElem?_eq_getElem h]
  rfl
def goalB (W : World2) (here kept : List Bool) (k : Nat) : Bool := here.getD k false && (doorTo (dr W k) kept).isSome
structure FallInv (W : World2) (n : Nat) (here : List Bool) (m : Int) (N : List (Option Int)) : Prop where
  len : N.length = n
  m0 : 0 ≤ m
  low : ∀ k, k < n → ∀ x, N.getD k none = some x → 0 ≤ x ∧ x < m
  fall : ∀ k, k < n → ∀ x, N.getD k none = some x → ∀ e ∈ dr W k, ∃ y, N.getD e.toNat none = some y ∧ y ≤ x ∧ (here.getD k false = true → y < x)
theorem FallInv.step {W : World2} {n b : Nat} {here goals : List Bool} {m : Int} {N N' : List (Option Int)} {R : List Lb} (g : FallInv W n here m N) (hW : Valid n b W) (hl : N'.length = n)
    (hg : ∀ k, k < n → goals.getD k false = goalB W here (keptOf N) k) (hR : SuAll W n (allT n) goals R)
    (h : ∀ k, k < n → N'.getD k none = if (keptOf N).getD k false && !(R.getD k default).1 then some m else N.getD k none) : FallInv W n here (m + 1) N' := by
  have m0 := g.m0
  have keep : ∀ k, k < n → ∀ x, N.getD k none = some x → N'.getD k none = some x := fun k hk x e => by
    have q := h k hk
    rw [kept_at (by rw [g.len]; exact hk), e] at q
    exact q
  refine ⟨hl, by omega, fun k hk x e => ?_, fun k hk x e d hd => ?_⟩
  · cases hn : N.getD k none with
    | some y =>
      rw [keep k hk y hn] at e
      cases e
      have := g.low k hk x hn
      omega
    | none =>
      have q := h k hk
      rw [hn, e] at q
      cases hc : ((keptOf N).getD k false && !(R.getD k default).1) with
      | false => rw [hc] at q; cases q
      | true => rw [hc] at q; cases q; omega
  · have hb := (dr_in hW hk).2 d hd
    have hdn : d.toNat < n := by omega
    cases hn : N.getD k none with
    | some y =>
      rw [keep k hk y hn] at e
      cases e
      obtain ⟨y, hy, r⟩ := g.fall k hk x hn d hd
      exact ⟨y, keep _ hdn y hy, r⟩
    | none =>
      have q := h k hk
      rw [hn, e] at q
      cases hc : ((keptOf N).getD k false && !(R.getD k default).1) with
      | false => rw [hc] at q; cases q
      | true =>
        rw [hc] at q
        have q : some x = some m := q
        cases q
        rw [Bool.and_eq_true] at hc
        have hf : (R.getD k default).1 = false := by simpa using hc.2
        rcases su_cases (hR.su k hk) with ⟨_, e2, e3⟩ | ⟨e2, _⟩ | ⟨y, d', _, e2, _⟩
        · have e3 : ∀ e ∈ dr W k, (lbAt R e).1 = false := by
            rcases e3 with e3 | e3
            · rw [allT_at hk] at e3; cases e3
            · exact e3
          have hfd : (R.getD d.toNat default).1 = false := e3 d hd
          cases hnd : N.getD d.toNat none with
          | some y =>
            have := g.low _ hdn y hnd
            exact ⟨y, keep _ hdn y hnd, by omega, fun _ => by omega⟩
          | none =>
            have hkd : (keptOf N).getD d.toNat false = true := by
              rw [kept_at (by rw [g.len]; exact hdn), hnd]; rfl
            have qd := h _ hdn
            rw [hkd, hfd] at qd
            refine ⟨m, qd, Int.le_refl _, fun hh => ?_⟩
            exfalso
            rw [hg k hk] at e2
            unfold goalB at e2
            obtain ⟨d2, hd2⟩ := doorTo_has hd hkd
            rw [hh, hd2] at e2
            cases e2
        · rw [e2] at hf; cases hf
        · rw [e2] at hf; cases hf
theorem sa_done {W : World2} {n b : Nat} {here goals : List Bool} {m : Int} {N : List (Option Int)} {R L : List Lb} (g : FallInv W n here m N) (hW : Valid n b W)
    (hg : ∀ k, k < n → goals.getD k false = goalB W here (keptOf N) k) (hR : SuAll W n (allT n) goals R) (hk : ∀ k, k < n → N.getD k none = none → (R.getD k default).1 = true)
    (h : ∀ k, k < n → L.getD k default = match N.getD k none with
      | some x => (false, some x, none)
      | none => if (R.getD k default).2.1 = some 0 then (true, some 0, doorTo (dr W k) (keptOf N)) else R.getD k default) :
    ∀ k, k < n → lbOk (L.getD k default) (dr W k) = true ∧ saR here L k (dr W k) = true := by
  have kept : ∀ k, k < n → (R.getD k default).1 = true → N.getD k none = none := by
    refine hR.ind hW (fun k => N.getD k none = none) (fun k hk hr => ?_) (fun k d hk _ hd ih => ?_)
    · rw [hg k hk] at hr
      unfold goalB at hr
      rw [Bool.and_eq_true] at hr
      cases hq : doorTo (dr W k) (keptOf N) with
      | none => rw [hq] at hr; exact nomatch hr.2
      | some d =>
        obtain ⟨hd, hw⟩ := doorTo_some hq
        have hb := (dr_in hW hk).2 d hd
        rw [kept_at (by rw [g.len]; omega)] at hw
        cases hn : N.getD k none with
        | none => rfl
        | some x =>
          obtain ⟨y, hy, _⟩ := g.fall k hk x hn d hd
          rw [hy] at hw
          cases hw
    · cases hn : N.getD k none with
      | none => rfl
      | some x =>
        obtain ⟨y, hy, _⟩ := g.fall k hk x hn d hd
        rw [hy] at ih
        cases ih
  have tru : ∀ k, k < n → N.getD k none = none → (L.getD k default).1 = true := fun k hk' hn => by
    rw [h k hk', hn]
    show (if (R.getD k default).2.1 = some 0 then ((true, some 0, doorTo (dr W k) (keptOf N)) : Lb) else R.getD k default).1 = true
    split
    · rfl
    · exact hk k hk' hn
  intro k hk'
  have inn := (dr_in hW hk').2
  cases hn : N.getD k none with
  | some x =>
    have e := h k hk'
    rw [hn] at e
    have e : L.getD k default = (false, some x, none) := e
    unfold saR
    rw [e]
    refine ⟨?_, ?_⟩
    · show (decide (0 ≤ x) && true) = true
      rw [decide_eq_true (g.low k hk' x hn).1]
      rfl
    · show lowB (endsOf L (dr W k)) false (x + 1 - (if here.getD k false = true then 1 else 0)) = true
      unfold lowB
      rw [List.all_eq_true]
      intro l hl
      obtain ⟨d, hd, rfl⟩ := List.mem_map.mp hl
      have hb := inn d hd
      obtain ⟨y, hy, y1, y2⟩ := g.fall k hk' x hn d hd
      have ed := h d.toNat (by omega)
      rw [hy] at ed
      have ed : lbAt L d = (false, some y, none) := ed
      rw [ed]
      show (true && decide (y < x + 1 - (if here.getD k false = true then 1 else 0))) = true
      rw [Bool.true_and]
      cases hh : here.getD k false with
      | true =>
        have := y2 hh
        refine decide_eq_true ?_
        show y < x + 1 - 1
        omega
      | false =>
        refine decide_eq_true ?_
        show y < x + 1 - 0
        omega
  | none =>
    have e := h k hk'
    rw [hn] at e
    have e : L.getD k default = if (R.getD k default).2.1 = some 0 then (true, some 0, doorTo (dr W k) (keptOf N)) else R.getD k default := e
    have ht := hk k hk' hn
    rcases su_cases (hR.su k hk') with ⟨e2, _⟩ | ⟨e2, hr⟩ | ⟨x, d, hx, e2, _, d1, d2⟩
    · rw [e2] at ht; cases ht
    · rw [e2] at e
      have e : L.getD k default = (true, some 0, doorTo (dr W k) (keptOf N)) := e
      rw [hg k hk'] at hr
      unfold goalB at hr
      rw [Bool.and_eq_true] at hr
      cases hq : doorTo (dr W k) (keptOf N) with
      | none => rw [hq] at hr; exact nomatch hr.2
      | some d =>
        obtain ⟨hd, hw⟩ := doorTo_some hq
        have hb := inn d hd
        rw [kept_at (by rw [g.len]; omega)] at hw
        have hnd : N.getD d.toNat none = none := by simpa using hw
        rw [hq] at e
        unfold saR
        rw [e]
        refine ⟨?_, ?_⟩
        · show (true && decide (d ∈ dr W k)) = true
          rw [decide_eq_true hd]; rfl
        · show (if (!(lbAt L d).1) = true then false else here.getD k false) = true
          have : (lbAt L d).1 = true := tru d.toNat (by omega) hnd
          rw [this, hr.1]
          rfl
    · rw [e2] at e
      have hx' : ¬ (some x = some (0 : Int)) := fun z => hx (Option.some.inj z)
      have e : L.getD k default = (true, some x, some d) := e.trans (if_neg hx')
      have hd := hR.door hk' (d := d) (by rw [e2])
      have hb := inn d hd
      have hnd := kept d.toNat (by omega) d1
      have x0 := hR.num hk' (x := x) (by rw [e2])
      have ed := h d.toNat (by omega)
      rw [hnd] at ed
      have ed : lbAt L d = if (R.getD d.toNat default).2.1 = some 0 then (true, some 0, doorTo (dr W d.toNat) (keptOf N)) else R.getD d.toNat default := ed
      have ed1 : (lbAt L d).1 = true := tru d.toNat (by omega) hnd
      have ed2 : (lbAt L d).2.1 = some (x - 1) := by
        have d2 : (R.getD d.toNat default).2.1 = some (x - 1) := d2
        rw [ed]
        split
        · rename_i q
          rw [q] at d2
          exact d2
        · exact d2
      unfold saR
      rw [e]
      refine ⟨?_, ?_⟩
      · show (decide (0 ≤ x) && decide (d ∈ dr W k)) = true
        rw [decide_eq_true x0, decide_eq_true hd]; rfl
      · show (if (!(lbAt L d).1) = true then false else if decide (x = 0) = true then here.getD k false else decide ((lbAt L d).2.1 = some (x - 1))) = true
        rw [ed1, ed2, decide_eq_false hx]
        simp
/-! ### again for all -/
def turnL (l : Lb) : Lb := (!l.1, l.2.1, l.2.2)
theorem au_cases {left right : List Bool} {L : List Lb} {k : Nat} {doors : List Int} (h : auR left right L k doors = true) (hf : (L.getD k default).1 = false) (hl : left.getD k false = true) :
    ∃ d, L.getD k default = (false, none, some d) ∧ right.getD k false = false ∧ (lbAt L d).1 = false := by
  unfold auR at h
  generalize hl' : L.getD k default = l at h hf
  obtain ⟨lt, ln, ld⟩ := l
  have hf : lt = false := hf
  subst hf
  cases ln with
  | some x => cases h
  | none =>
    cases ld with
    | none =>
      have h : (if right.getD k false = true then false else !left.getD k false) = true := h
      rw [hl] at h
      split at h <;> cases h
    | some d =>
      have h : (if right.getD k false = true then false else left.getD k false && !(lbAt L d).1) = true := h
      cases hr : right.getD k false with
      | true => rw [hr] at h; cases h
      | false =>
        rw [hr, hl] at h
        have h : (!(lbAt L d).1) = true := h
        refine ⟨d, rfl, rfl, ?_⟩
        cases q : (lbAt L d).1 with
        | false => rfl
        | true => rw [q] at h; cases h
theorem aa_done {W : World2} {n b : Nat} {here without : List Bool} {O S L : List Lb} (hW : Valid n b W)
    (ho : ∀ k, k < n → lbOk (O.getD k default) (dr W k) = true) (hO : ∀ k, k < n → auR (allT n) here O k (dr W k) = true)
    (hw : ∀ k, k < n → without.getD k false = !(O.getD k default).1)
    (hs : ∀ k, k < n → lbOk (S.getD k default) (dr W k) = true) (hS : ∀ k, k < n → suR2 (allT n) without S k (dr W k) = true)
    (h : ∀ k, k < n → L.getD k default = if (S.getD k default).1 = false then (true, (O.getD k default).2.1, none) else if (S.getD k default).2.1 = some 0 then (false, some 0, (O.getD k default).2.2) else turnL (S.getD k default)) :
    ∀ k, k < n → lbOk (L.getD k default) (dr W k) = true ∧ aaR here L k (dr W k) = true := by
  have A : SuAll W n (allT n) without S := ⟨hs, fun k hk => su2_su (hS k hk)⟩
  have lf : ∀ k, k < n → (S.getD k default).1 = false → L.getD k default = (true, (O.getD k default).2.1, none) := fun k hk hf => by
    rw [h k hk, if_pos hf]
  have lt1 : ∀ k, k < n → (S.getD k default).1 = true → (L.getD k default).1 = false ∧ (L.getD k default).2.1 = (S.getD k default).2.1 := fun k hk ht => by
    rw [h k hk, if_neg (by rw [ht]; exact fun z => nomatch z)]
    split
    · rename_i q
      exact ⟨rfl, q.symm⟩
    · refine ⟨?_, rfl⟩
      show (!(S.getD k default).1) = false
      rw [ht]; rfl
  intro k hk
  have inn := (dr_in hW hk).2
  rcases su_cases (A.su k hk) with ⟨e2, hr, hd⟩ | ⟨e2, hr⟩ | ⟨x, d, hx, e2, _, d1, d2⟩
  · have hd : ∀ e ∈ dr W k, (lbAt S e).1 = false := by
      rcases hd with hd | hd
      · rw [allT_at hk] at hd; cases hd
      · exact hd
    have e := lf k hk (by rw [e2])
    rw [hw k hk] at hr
    have ot : (O.getD k default).1 = true := by
      cases q : (O.getD k default).1 with
      | true => rfl
      | false => rw [q] at hr; cases hr
    obtain ⟨x, hx, alt⟩ := au_true (hO k hk) ot
    have ok := ho k hk
    unfold lbOk at ok
    rw [hx, Bool.and_eq_true] at ok
    have x0 : 0 ≤ x := of_decide_eq_true ok.1
    rw [hx] at e
    have le : ∀ d ∈ dr W k, lbAt L d = (true, (lbAt O d).2.1, none) := fun d hd' => by
      have hb := inn d hd'
      exact lf d.toNat (by omega) (hd d hd')
    unfold aaR
    rw [e]
    refine ⟨?_, ?_⟩
    · show (decide (0 ≤ x) && true) = true
      rw [decide_eq_true x0]; rfl
    · show (if here.getD k false = true then !((endsOf L (dr W k)).map (·.1)).contains false else lowB (endsOf L (dr W k)) true x) = true
      cases hh : here.getD k false with
      | true =>
        show (!((endsOf L (dr W k)).map (·.1)).contains false) = true
        cases hc : ((endsOf L (dr W k)).map (·.1)).contains false with
        | false => rfl
        | true =>
          obtain ⟨l, hl, el⟩ := List.mem_map.mp (List.contains_iff_mem.mp hc)
          obtain ⟨d, hd', rfl⟩ := List.mem_map.mp hl
          rw [le d hd'] at el
          cases el
      | false =>
        show lowB (endsOf L (dr W k)) true x = true
        rcases alt with alt | ⟨_, alt⟩
        · rw [hh] at alt; cases alt
        · unfold lowB
          rw [List.all_eq_true]
          intro l hl
          obtain ⟨d, hd', rfl⟩ := List.mem_map.mp hl
          obtain ⟨_, y, hy, hlt⟩ := alt d hd'
          rw [le d hd', hy]
          show (true && decide (y < x)) = true
          rw [decide_eq_true hlt]; rfl
  · rw [hw k hk] at hr
    have of : (O.getD k default).1 = false := by
      cases q : (O.getD k default).1 with
      | false => rfl
      | true => rw [q] at hr; cases hr
    obtain ⟨d, eo, hh, hd1⟩ := au_cases (hO k hk) of (allT_at hk)
    have ok := ho k hk
    unfold lbOk at ok
    rw [eo, Bool.and_eq_true] at ok
    have hd : d ∈ dr W k := of_decide_eq_true ok.2
    have hb := inn d hd
    have e : L.getD k default = (false, some 0, some d) := by
      rw [h k hk, e2, eo]; rfl
    have sd : S.getD d.toNat default = (true, some 0, none) := su2_right (hS d.toNat (by omega)) (by
      rw [hw _ (by omega)]
      have hd1 : (O.getD d.toNat default).1 = false := hd1
      rw [hd1]; rfl)
    obtain ⟨l1, l2⟩ := lt1 d.toNat (by omega) (by rw [sd])
    rw [sd] at l2
    unfold aaR
    rw [e]
    refine ⟨?_, ?_⟩
    · show (true && decide (d ∈ dr W k)) = true
      rw [decide_eq_true hd]; rfl
    · have l1 : (lbAt L d).1 = false := l1
      have l2 : (lbAt L d).2.1 = some 0 := l2
      show (if (lbAt L d).1 = true then false else !here.getD k false && decide ((lbAt L d).2.1 = some 0)) = true
      rw [l1, l2, hh]
      rfl
  · have hd := A.door hk (d := d) (by rw [e2])
    have hb := inn d hd
    have x0 := A.num hk (x := x) (by rw [e2])
    have hx' : ¬ (some x = some (0 : Int)) := fun z => hx (Option.some.inj z)
    have e : L.getD k default = (false, some x, some d) := by
      rw [h k hk, e2, if_neg (fun z => nomatch z), if_neg hx']; rfl
    obtain ⟨l1, l2⟩ := lt1 d.toNat (by omega) d1
    have l1 : (lbAt L d).1 = false := l1
    have l2 : (lbAt L d).2.1 = some (x - 1) := l2.trans d2
    unfold aaR
    rw [e]
    refine ⟨?_, ?_⟩
    · show (decide (0 ≤ x) && decide (d ∈ dr W k)) = true
      rw [decide_eq_true x0, decide_eq_true hd]; rfl
    · show (if (lbAt L d).1 = true then false else if decide (x = 0) = true then !here.getD k false && decide ((lbAt L d).2.1 = some 0) else decide ((lbAt L d).2.1 = some (x - 1))) = true
      rw [l1, l2, decide_eq_false hx]
      simp
end Ws
/-! ### how many are False -/
namespace Ws
def cf (n : Nat) (L : List Lb) : Nat := (List.range n).countP fun k => !(L.getD k default).1
theorem countP_less {α : Type} {p q : α → Bool} : ∀ {l : List α}, (∀ x ∈ l, p x = true → q x = true) → (∃ x ∈ l, p x = false ∧ q x = true) → l.countP p < l.countP q
  | [], _, ⟨_, h, _⟩ => nomatch h
  | a :: l, h, ⟨x, hx, hp, hq⟩ => by
    have le : l.countP p ≤ l.countP q := List.countP_mono_left fun y hy => h y (List.mem_cons_of_mem _ hy)
    rw [List.countP_cons, List.countP_cons]
    rcases List.mem_cons.mp hx with rfl | hx
    · rw [hp, hq, if_neg Bool.false_ne_true, if_pos rfl]
      omega
    · have ih := countP_less (fun y hy => h y (List.mem_cons_of_mem _ hy)) ⟨x, hx, hp, hq⟩
      cases ha : p a with
      | true =>
        rw [h a List.mem_cons_self ha]
        omega
      | false =>
        have z : (if false = true then 1 else 0) = 0 := rfl
        rw [z]
        omega
theorem cf_lt {n : Nat} {L L' : List Lb} (h : ∀ k, k < n → (L.getD k default).1 = true → (L'.getD k default).1 = true) (g : ∃ k, k < n ∧ (L.getD k default).1 = false ∧ (L'.getD k default).1 = true) : cf n L' < cf n L := by
  refine countP_less (fun k hk hp => ?_) ?_
  · cases ht : (L.getD k default).1 with
    | false => rfl
    | true => rw [h k (List.mem_range.mp hk) ht] at hp; exact hp
  · obtain ⟨k, hk, h1, h2⟩ := g
    exact ⟨k, List.mem_range.mpr hk, by rw [h2]; rfl, by rw [h1]; rfl⟩
theorem cf_le {n : Nat} {L L' : List Lb} (h : ∀ k, k < n → (L.getD k default).1 = true → (L'.getD k default).1 = true) : cf n L' ≤ cf n L :=
  List.countP_mono_left fun k hk hp => by
    cases ht : (L.getD k default).1 with
    | false => rfl
    | true => rw [h k (List.mem_range.mp hk) ht] at hp; exact hp
def newL (sm : Bool) (W : World2) (left : List Bool) (m : Int) (L : List Lb) (k : Nat) : Lb := if left.getD k false && !(L.getD k default).1 then joinL sm (dr W k) (trs L) (m + 1) else L.getD k default
def grewB (sm : Bool) (W : World2) (left : List Bool) (m : Int) (L : List Lb) (i : Nat) : Bool := (List.range i).any fun k => !(L.getD k default).1 && (newL sm W left m L k).1
theorem grew_succ (sm : Bool) (W : World2) (left : List Bool) (m : Int) (L : List Lb) (i : Nat) : grewB sm W left m L (i + 1) = (grewB sm W left m L i || (!(L.getD i default).1 && (newL sm W left m L i).1)) := by
  unfold grewB
  rw [List.range_succ, List.any_append]
  simp
def startL (l : List Bool) : List Lb := l.map fun t => if t then (true, some 0, none) else (false, none, none)
theorem start_at {l : List Bool} {k : Nat} (h : k < l.length) : (startL l).getD k default = if l.getD k false then (true, some 0, none) else (false, none, none) := by
  unfold startL
  rw [List.getD_eq_getElem?_getD, List.getElem?_map, List.getD_eq_getElem?_getD, List.getElem?_eq_getElem h]
  rfl
theorem tru_keep {sm : Bool} {W : World2} {left : List Bool} {m : Int} {L L' : List Lb} {n : Nat} (h : ∀ k, k < n → L'.getD k default = newL sm W left m L k) : ∀ k, k < n → (L.getD k default).1 = true → (L'.getD k default).1 = true := fun k hk ht => by
  rw [h k hk]
  unfold newL
  rw [ht, Bool.not_true, Bool.and_false, if_neg Bool.false_ne_true, ht]
end Ws
namespace Ws
def goalsOf (W : World2) (n : Nat) (here kept : List Bool) : List Bool := (List.range n).map (goalB W here kept)
theorem range_at {α : Type} {n k : Nat} {g : Nat → α} {d : α} (h : k < n) : ((List.range n).map g).getD k d = g k := by
  rw [List.getD_eq_getElem?_getD, List.getElem?_map, List.getElem?_range h]
  rfl
theorem goals_at {W : World2} {n : Nat} {here kept : List Bool} {k : Nat} (h : k < n) : (goalsOf W n here kept).getD k false = goalB W here kept k := range_at h
def cn (n : Nat) (N : List (Option Int)) : Nat := (List.range n).countP fun k => (N.getD k none).isNone
def newN (N : List (Option Int)) (R : List Lb) (m : Int) (k : Nat) : Option Int := if (keptOf N).getD k false && !(R.getD k default).1 then some m else N.getD k none
def fellB (N : List (Option Int)) (R : List Lb) (i : Nat) : Bool := (List.range i).any fun k => (keptOf N).getD k false && !(R.getD k default).1
theorem fell_succ (N : List (Option Int)) (R : List Lb) (i : Nat) : fellB N R (i + 1) = (fellB N R i || ((keptOf N).getD i false && !(R.getD i default).1)) := by
  unfold fellB
  rw [List.range_succ, List.any_append]
  simp
theorem cn_le {n : Nat} {N N' : List (Option Int)} {R : List Lb} {m : Int} (h : ∀ k, k < n → N'.getD k none = newN N R m k) : cn n N' ≤ cn n N :=
  List.countP_mono_left fun k hk hp => by
    rw [h k (List.mem_range.mp hk)] at hp
    unfold newN at hp
    split at hp
    · cases hp
    · exact hp
theorem cn_lt {n : Nat} {N N' : List (Option Int)} {R : List Lb} {m : Int} (hl : N.length = n) (h : ∀ k, k < n → N'.getD k none = newN N R m k) (hf : fellB N R n = true) : cn n N' < cn n N := by
  unfold fellB at hf
  rw [List.any_eq_true] at hf
  obtain ⟨k, hk, hf⟩ := hf
  have hk' := List.mem_range.mp hk
  refine countP_less (fun j hj hp => ?_) ⟨k, hk, ?_, ?_⟩
  · rw [h j (List.mem_range.mp hj)] at hp
    unfold newN at hp
    split at hp
    · cases hp
    · exact hp
  · rw [h k hk']
    unfold newN
    rw [if_pos hf]
    rfl
  · rw [Bool.and_eq_true, kept_at (by omega)] at hf
    exact hf.1
theorem list_ext_getD {α : Type} {l l' : List α} {d : α} (hl : l.length = l'.length) (h : ∀ k, k < l.length → l.getD k d = l'.getD k d) : l = l' :=
  List.ext_getElem hl fun k h1 h2 => by
    have := h k h1
    rw [List.getD_eq_getElem?_getD, List.getD_eq_getElem?_getD, List.getElem?_eq_getElem h1, List.getElem?_eq_getElem h2] at this
    exact this
theorem not_fell {n : Nat} {N N' : List (Option Int)} {R : List Lb} {m : Int} (hl : N.length = n) (hl' : N'.length = n) (h : ∀ k, k < n → N'.getD k none = newN N R m k) (hf : fellB N R n = false) :
    N' = N ∧ ∀ k, k < n → N.getD k none = none → (R.getD k default).1 = true := by
  unfold fellB at hf
  rw [List.any_eq_false] at hf
  refine ⟨list_ext_getD (d := none) (by omega) fun k hk => ?_, fun k hk hn => ?_⟩
  · rw [h k (by omega)]
    unfold newN
    rw [if_neg (hf k (List.mem_range.mpr (by omega)))]
  · have q := hf k (List.mem_range.mpr hk)
    rw [kept_at (by omega), hn] at q
    cases hr : (R.getD k default).1 with
    | true => rfl
    | false => rw [hr] at q; exact absurd rfl q
def newA (W : World2) (N : List (Option Int)) (R : List Lb) (k : Nat) : Lb := match N.getD k none with
  | some x => (false, some x, none)
  | none => if (R.getD k default).2.1 = some 0 then (true, some 0, doorTo (dr W k) (keptOf N)) else R.getD k default
def newB (O S : List Lb) (k : Nat) : Lb := if (S.getD k default).1 = false then (true, (O.getD k default).2.1, none) else if (S.getD k default).2.1 = some 0 then (false, some 0, (O.getD k default).2.2) else turnL (S.getD k default)
theorem turnL_at {S : List Lb} {k : Nat} (h : k < S.length) : (S.map turnL).getD k default = turnL (S.getD k default) := by
  rw [List.getD_eq_getElem?_getD, List.getElem?_map, List.getD_eq_getElem?_getD, List.getElem?_eq_getElem h]
  rfl
theorem step_if {α : Type} {i k : Nat} {x y : Nat → α} : (if k < i + 1 then x k else y k) = if k = i then x i else if k < i then x k else y k := by
  by_cases e : k = i
  · subst e
    rw [if_pos (Nat.lt_succ_self _), if_pos rfl]
  · rw [if_neg e]
    by_cases e2 : k < i
    · rw [if_pos e2, if_pos (by omega)]
    · rw [if_neg e2, if_neg (by omega)]
end Ws

namespace L2
open PySem PySem.Spec PyProof.Rows
section
variable {X : Cx} {N : List Str} {scope : Scope} {cl : List (Str × Addr)} {C : Addr} {fp : List Addr} {s : Shared} {H : Hp} {pos : Pos}
theorem cpg_tup {es : List Expr} {k : Nat} {t : TGs} {n : Nat} (hc : X.calm = true) (h : PGs (cxComp X N scope cl C fp s H) es t)
    (hn : (assignEach es (cxComp X N scope cl C fp s H).env).length = n := by rfl) (hst : (assignEach es (cxComp X N scope cl C fp s H).env).findIdx? (·.1) = none := by rfl) : PG (cxComp X N scope cl C fp s H) (.Tuple es k pos) (gTup X.K n t) := pg_tup hc h hn hst
end
end L2
/-! ## all and any over a list of truth values; a list of labels that is set at a place -/
namespace Ws
open PySem L2
theorem bAll : bootBuiltins "all" = some (.builtin "all") := by decide +kernel
theorem bAny : bootBuiltins "any" = some (.builtin "any") := by decide +kernel
structure Blt2 (mg : Str → Option Value) : Prop where
  all : mg "all" = none
  any : mg "any" = none
theorem bools_get : ∀ {bs : List Bool} {us : List Value} {i : Nat} {v : Value}, Vals (bs.map V.bl) us → us[i]? = some v → ∃ b, bs[i]? = some b ∧ v = .bool b
  | [], _, _, _, .nil, e => by simp at e
  | b :: _, _, 0, _, .cons r _, e => by
    simp at e
    subst e
    exact ⟨b, rfl, r⟩
  | _ :: _, _, i + 1, v, .cons _ t, e => by
    obtain ⟨b, h1, h2⟩ := bools_get (i := i) (v := v) t (by simpa using e)
    exact ⟨b, by simpa using h1, h2⟩
theorem rangeAll (bs : List Bool) : ((List.range bs.length).all fun i => (bs[i]?).getD true) = bs.all id := by
  rw [Bool.eq_iff_iff, List.all_eq_true, List.all_eq_true]
  constructor
  · intro h b hb
    obtain ⟨i, hi, e⟩ := List.getElem_of_mem hb
    have := h i (List.mem_range.mpr hi)
    simp only [List.getElem?_eq_getElem hi, Option.getD_some, e] at this
    exact this
  · intro h i hi
    have hi' := List.mem_range.mp hi
    simp only [List.getElem?_eq_getElem hi', Option.getD_some]
    exact h _ (List.getElem_mem hi')
theorem rangeAny (bs : List Bool) : ((List.range bs.length).any fun i => (bs[i]?).getD false) = bs.any id := by
  rw [Bool.eq_iff_iff, List.any_eq_true, List.any_eq_true]
  constructor
  · rintro ⟨i, hi, e⟩
    have hi' := List.mem_range.mp hi
    simp only [List.getElem?_eq_getElem hi', Option.getD_some] at e
    exact ⟨_, List.getElem_mem hi', e⟩
  · rintro ⟨b, hb, e⟩
    obtain ⟨i, hi, rfl⟩ := List.getElem_of_mem hb
    exact ⟨i, List.mem_range.mpr hi, by simp only [List.getElem?_eq_getElem hi, Option.getD_some]; exact e⟩
theorem keptIter {s : Shared} {h' : Heap} {o : Obj} (hk : ∀ b x, b ∉ [s.heap.objs.size] → (s.heap.push o).get? b = some x → h'.get? b = some x) : ∀ b x, s.heap.get? b = some x → h'.get? b = some x :=
  fun b x e => hk b x (fun hm => by rw [List.mem_singleton.mp hm] at e; exact Nat.lt_irrefl _ (Heap.lt_size e)) (Heap.get?_push_of_some _ e)
section
variable {X : Cx}
theorem call_all (hc : X.calm = true) : CallR X (.builtin "all") (fun xs H Q => ∃ (p : Addr) (bs : List Bool), xs = [.ref p] ∧ SqL X.K H p (bs.map V.bl) ∧ Q (.bl (bs.all id)) H) := by
  intro pins s σ H xs us Q I r h
  obtain ⟨p, bs, rfl, hq, q⟩ := h
  obtain ⟨u, rfl, rx⟩ := vals1 r
  cases rx
  obtain ⟨its, r', pl, hz⟩ := I.list hq
  have hl := pl.isList
  have hlt : p < s.heap.objs.size := by obtain ⟨_, e, _⟩ := hl; exact Heap.lt_size e
  have hlen := r'.length
  rw [List.length_map] at hlen
  refine call_all_walk (wpAny_pyIter_list hl ?_)
  refine ⟨s.heap.objs.size, [s.heap.objs.size, p], [s.heap.objs.size], its.toArray.size, _, _, fun i => (bs[i]?).getD true, rfl, Walks.list (A := X.A.in1) (I.ok.hd hc) _ p (Nat.ne_of_lt hlt) its.toArray,
    ⟨⟨_, Heap.get?_push_size _ rfl, rfl, rfl⟩, hl.push _⟩, fun i v s' Q' E' hP hQ => ?_, fun h' tk hk => ?_⟩
  · obtain ⟨b, e, rfl⟩ := bools_get r' (by simpa using hP)
    simp only [e, Option.getD_some] at hQ
    exact wpAny_truthy_bool hQ
  · have e : ((List.range its.toArray.size).all fun i => (bs[i]?).getD true) = bs.all id := by
      rw [List.size_toArray, ← hlen]; exact rangeAll bs
    rw [e]
    exact ⟨.bl (bs.all id), H, I.kept (keptIter hk), rfl, q⟩
theorem call_any (hc : X.calm = true) : CallR X (.builtin "any") (fun xs H Q => ∃ (p : Addr) (bs : List Bool), xs = [.ref p] ∧ SqL X.K H p (bs.map V.bl) ∧ Q (.bl (bs.any id)) H) := by
  intro pins s σ H xs us Q I r h
  obtain ⟨p, bs, rfl, hq, q⟩ := h
  obtain ⟨u, rfl, rx⟩ := vals1 r
  cases rx
  obtain ⟨its, r', pl, hz⟩ := I.list hq
  have hl := pl.isList
  have hlt : p < s.heap.objs.size := by obtain ⟨_, e, _⟩ := hl; exact Heap.lt_size e
  have hlen := r'.length
  rw [List.length_map] at hlen
  refine call_any_walk (wpAny_pyIter_list hl ?_)
  refine ⟨s.heap.objs.size, [s.heap.objs.size, p], [s.heap.objs.size], its.toArray.size, _, _, fun i => (bs[i]?).getD false, rfl, Walks.list (A := X.A.in1) (I.ok.hd hc) _ p (Nat.ne_of_lt hlt) its.toArray,
    ⟨⟨_, Heap.get?_push_size _ rfl, rfl, rfl⟩, hl.push _⟩, fun i v s' Q' E' hP hQ => ?_, fun h' tk hk => ?_⟩
  · obtain ⟨b, e, rfl⟩ := bools_get r' (by simpa using hP)
    simp only [e, Option.getD_some] at hQ
    exact wpAny_truthy_bool hQ
  · have e : ((List.range its.toArray.size).any fun i => (bs[i]?).getD false) = bs.any id := by
      rw [List.size_toArray, ← hlen]; exact rangeAny bs
    rw [e]
    exact ⟨.bl (bs.any id), H, I.kept (keptIter hk), rfl, q⟩
end
theorem DsAt.set {G : Hp} {v : V} {d : Dat} (h : DAt G v d) : ∀ {vs : List V} {ds : List Dat} (i : Nat), DsAt G vs ds → DsAt G (vs.set i v) (ds.set i d)
  | _, _, _, .nil => .nil
  | _, _, 0, .cons _ t => .cons h t
  | _, _, i + 1, .cons q t => .cons q (DsAt.set h i t)
theorem Grow.put {α : Type} {φ : α → Dat} {H0 H : Hp} {q : Addr} {ts : List α} {vs : List V} (g : Grow φ H0 H q ts vs) {v : V} {t : α} (i : Nat) (h : DAt (del H q) v (φ t)) : Grow φ H0 (upd H q (.lst (vs.set i v))) q (ts.set i t) (vs.set i v) := by
  obtain ⟨⟨G, a, b, c, d⟩, e⟩ := g
  refine ⟨⟨del H q, a.trans (same_del b c), del_upd, del_at, ?_⟩, upd_same⟩
  rw [List.map_set]
  exact (d.mono (same_del b c)).set h i
theorem Grow.fresh_ne {α : Type} {φ : α → Dat} {H0 H : Hp} {q t : Addr} {ts : List α} {vs : List V} (g : Grow φ H0 H q ts vs) (h : H t = none) : t ≠ q := fun z => by rw [z, g.at_] at h; cases h
/-- the label at a place -/
theorem Grow.lab {H0 H : Hp} {q : Addr} {L : List Lb} {vs : List V} (g : Grow lbdat H0 H q L vs) {k : Nat} (hk : k < L.length) : ∃ t, atI vs (k : Int) = some (.ref t) ∧ H t = some (.tup [.bl (L.getD k default).1, ov (L.getD k default).2.1, ov (L.getD k default).2.2]) := by
  obtain ⟨v, e, d⟩ := g.items.nth hk
  obtain ⟨t, rfl, et⟩ := lbdat_inv d
  rw [getD_eq hk]
  exact ⟨t, atI_nat e, et⟩
theorem lab_at {H : Hp} {c : Addr} {L : List Lb} (h : DAt H (.ref c) (lsdat L)) {k : Nat} (hk : k < L.length) : ∃ vs t, H c = some (.lst vs) ∧ vs[k]? = some (.ref t) ∧ DAt H (.ref t) (lbdat (L.getD k default)) ∧ H t = some (.tup [.bl (L.getD k default).1, ov (L.getD k default).2.1, ov (L.getD k default).2.2]) := by
  obtain ⟨c', vs, e, hc, hv⟩ := DAt.lst_inv h
  cases e
  obtain ⟨v, e, d⟩ := hv.nth hk
  obtain ⟨t, rfl, et⟩ := lbdat_inv d
  rw [getD_eq hk]
  exact ⟨vs, t, hc, e, d, et⟩
theorem set_at {α : Type} {l : List α} {i k : Nat} {x d : α} (hi : i < l.length) : (l.set i x).getD k d = if k = i then x else l.getD k d := by
  rw [List.getD_eq_getElem?_getD, List.getD_eq_getElem?_getD]
  by_cases h : k = i
  · subst h
    rw [List.getElem?_set_self hi, if_pos rfl]
    rfl
  · rw [List.getElem?_set_ne (fun z => h z.symm), if_neg h]
theorem ixN_nat {n k : Nat} (h : k < n) : ixN n (k : Int) = some k := by
  unfold ixN
  rw [if_pos (by omega), if_pos (by omega)]
  rfl
end Ws

namespace Ws
open PySem L2
def top (i : Nat) : Stmt := PySem.Challenge.pw_waysaid_k04_some_again.main.body.getD i (.Pass ⟨0, 0, 0, 0⟩)
abbrev sd_doors_of : Stmt := top 1
theorem sc_doors_of : FnScope ["world", "place"] ["world", "place"] (defScope sd_doors_of) := ⟨rfl, rfl, rfl, by decide +kernel, rfl, by decide +kernel, by decide +kernel⟩
abbrev sd_p_truths_of : Stmt := top 3
theorem sc_p_truths_of : FnScope ["labels"] ["labels"] (defScope sd_p_truths_of) := ⟨rfl, rfl, rfl, by decide +kernel, rfl, by decide +kernel, by decide +kernel⟩
theorem cs_p_truths_of_0 : CompSc (defScope sd_p_truths_of) ["labels"] ["label"] [none] { kind := .function, names := [(Str.ofString ".0", .local), (Str.ofString "label", .local)], isGenerator := false, isCoroutine := false, more := [] } := ⟨rfl, by decide +kernel, by decide +kernel, by decide +kernel, by decide +kernel, by decide +kernel⟩
abbrev sd_everywhere : Stmt := top 4
theorem sc_everywhere : FnScope ["world"] ["world"] (defScope sd_everywhere) := ⟨rfl, rfl, rfl, by decide +kernel, rfl, by decide +kernel, by decide +kernel⟩
theorem cs_everywhere_0 : CompSc (defScope sd_everywhere) ["world"] ["state"] [none] { kind := .function, names := [(Str.ofString ".0", .local), (Str.ofString "state", .local)], isGenerator := false, isCoroutine := false, more := [] } := ⟨rfl, by decide +kernel, by decide +kernel, by decide +kernel, by decide +kernel, by decide +kernel⟩
abbrev sd_door_to : Stmt := top 5
theorem sc_door_to : FnScope ["world", "place", "wanted", "door"] ["world", "place", "wanted"] (defScope sd_door_to) := ⟨rfl, rfl, rfl, by decide +kernel, rfl, by decide +kernel, by decide +kernel⟩
abbrev sd_joined_label : Stmt := top 6
theorem sc_joined_label : FnScope ["world", "place", "reached", "number", "who", "door", "closed"] ["world", "place", "reached", "number", "who"] (defScope sd_joined_label) := ⟨rfl, rfl, rfl, by decide +kernel, rfl, by decide +kernel, by decide +kernel⟩
theorem cs_joined_label_0 : CompSc (defScope sd_joined_label) ["world", "place", "reached", "number", "who", "door", "closed"] ["door", "reached"] [none, some 2] { kind := .function, names := [(Str.ofString ".0", .local), (Str.ofString "door", .local), (Str.ofString "reached", .free)], isGenerator := false, isCoroutine := false, more := [] } := ⟨rfl, by decide +kernel, by decide +kernel, by decide +kernel, by decide +kernel, by decide +kernel⟩
abbrev sd_grown_labels : Stmt := top 7
theorem sc_grown_labels : FnScope ["world", "left", "right", "who", "labels", "number", "growing", "reached", "place"] ["world", "left", "right", "who"] (defScope sd_grown_labels) := ⟨rfl, rfl, rfl, by decide +kernel, rfl, by decide +kernel, by decide +kernel⟩
theorem cs_grown_labels_0 : CompSc (defScope sd_grown_labels) ["world", "left", "right", "who", "labels", "number", "growing", "reached", "place"] ["truth"] [none] { kind := .function, names := [(Str.ofString ".0", .local), (Str.ofString "truth", .local)], isGenerator := false, isCoroutine := false, more := [] } := ⟨rfl, by decide +kernel, by decide +kernel, by decide +kernel, by decide +kernel, by decide +kernel⟩
abbrev sd_some_until : Stmt := top 8
theorem sc_some_until : FnScope ["world", "left", "right"] ["world", "left", "right"] (defScope sd_some_until) := ⟨rfl, rfl, rfl, by decide +kernel, rfl, by decide +kernel, by decide +kernel⟩
abbrev sd_reaching : Stmt := top 9
theorem sc_reaching : FnScope ["world", "here", "kept", "goals"] ["world", "here", "kept"] (defScope sd_reaching) := ⟨rfl, rfl, rfl, by decide +kernel, rfl, by decide +kernel, by decide +kernel⟩
theorem cs_reaching_0 : CompSc (defScope sd_reaching) ["world", "here", "kept", "goals"] ["place", "here", "kept", "world"] [none, some 1, some 2, some 0] { kind := .function, names := [(Str.ofString ".0", .local), (Str.ofString "place", .local), (Str.ofString "door_to", .globalImplicit), (Str.ofString "here", .free), (Str.ofString "kept", .free), (Str.ofString "world", .free)], isGenerator := false, isCoroutine := false, more := [] } := ⟨rfl, by decide +kernel, by decide +kernel, by decide +kernel, by decide +kernel, by decide +kernel⟩
abbrev sd_most_times : Stmt := top 10
theorem sc_most_times : FnScope ["world", "here", "numbers", "number", "falling", "kept", "reached", "place"] ["world", "here"] (defScope sd_most_times) := ⟨rfl, rfl, rfl, by decide +kernel, rfl, by decide +kernel, by decide +kernel⟩
theorem cs_most_times_0 : CompSc (defScope sd_most_times) ["world", "here", "numbers", "number", "falling", "kept", "reached", "place"] ["state"] [none] { kind := .function, names := [(Str.ofString ".0", .local), (Str.ofString "state", .local)], isGenerator := false, isCoroutine := false, more := [] } := ⟨rfl, by decide +kernel, by decide +kernel, by decide +kernel, by decide +kernel, by decide +kernel⟩
theorem cs_most_times_1 : CompSc (defScope sd_most_times) ["world", "here", "numbers", "number", "falling", "kept", "reached", "place"] ["known"] [none] { kind := .function, names := [(Str.ofString ".0", .local), (Str.ofString "known", .local)], isGenerator := false, isCoroutine := false, more := [] } := ⟨rfl, by decide +kernel, by decide +kernel, by decide +kernel, by decide +kernel, by decide +kernel⟩
abbrev sd_some_again : Stmt := top 11
theorem sc_some_again : FnScope ["world", "here", "numbers", "kept", "labels", "place"] ["world", "here"] (defScope sd_some_again) := ⟨rfl, rfl, rfl, by decide +kernel, rfl, by decide +kernel, by decide +kernel⟩
theorem cs_some_again_0 : CompSc (defScope sd_some_again) ["world", "here", "numbers", "kept", "labels", "place"] ["number"] [none] { kind := .function, names := [(Str.ofString ".0", .local), (Str.ofString "number", .local)], isGenerator := false, isCoroutine := false, more := [] } := ⟨rfl, by decide +kernel, by decide +kernel, by decide +kernel, by decide +kernel, by decide +kernel⟩
abbrev sd_draw : Stmt := top 13
theorem sc_draw : FnScope ["_law_number", "_law_prime", "_law_many"] ["_law_number", "_law_prime", "_law_many"] (defScope sd_draw) := ⟨rfl, rfl, rfl, by decide +kernel, rfl, by decide +kernel, by decide +kernel⟩
abbrev sd_whole : Stmt := top 14
theorem sc_whole : FnScope ["_law_found"] ["_law_found"] (defScope sd_whole) := ⟨rfl, rfl, rfl, by decide +kernel, rfl, by decide +kernel, by decide +kernel⟩
abbrev sd_at : Stmt := top 15
theorem sc_at : FnScope ["_law_script", "_law_k"] ["_law_script", "_law_k"] (defScope sd_at) := ⟨rfl, rfl, rfl, by decide +kernel, rfl, by decide +kernel, by decide +kernel⟩
abbrev sd_same : Stmt := top 16
theorem sc_same : FnScope ["_law_found", "_law_due", "_law_left", "_law_right", "_law_one", "_law_two"] ["_law_found", "_law_due"] (defScope sd_same) := ⟨rfl, rfl, rfl, by decide +kernel, rfl, by decide +kernel, by decide +kernel⟩
abbrev sd_first_mark : Stmt := top 17
theorem sc_first_mark : FnScope ["_law_script", "_law_cell"] ["_law_script"] (defScope sd_first_mark) := ⟨rfl, rfl, rfl, by decide +kernel, rfl, by decide +kernel, by decide +kernel⟩
abbrev sd_count_of : Stmt := top 18
theorem sc_count_of : FnScope ["_law_script"] ["_law_script"] (defScope sd_count_of) := ⟨rfl, rfl, rfl, by decide +kernel, rfl, by decide +kernel, by decide +kernel⟩
abbrev sd_line_of : Stmt := top 19
theorem sc_line_of : FnScope ["_law_count", "_law_script", "_law_world", "_law_k", "_law_cell", "_law_marks", "_law_doors", "_law_more", "_law_turn"] ["_law_count", "_law_script"] (defScope sd_line_of) := ⟨rfl, rfl, rfl, by decide +kernel, rfl, by decide +kernel, by decide +kernel⟩
theorem cs_line_of_0 : CompSc (defScope sd_line_of) ["_law_count", "_law_script", "_law_world", "_law_k", "_law_cell", "_law_marks", "_law_doors", "_law_more", "_law_turn"] ["_law_k", "_law_count", "_law_turn"] [none, some 0, some 8] { kind := .function, names := [(Str.ofString ".0", .local), (Str.ofString "_law_k", .local), (Str.ofString "_law_count", .free), (Str.ofString "_law_turn", .free)], isGenerator := false, isCoroutine := false, more := [] } := ⟨rfl, by decide +kernel, by decide +kernel, by decide +kernel, by decide +kernel, by decide +kernel⟩
abbrev sd_world_of : Stmt := top 20
theorem sc_world_of : FnScope ["_law_count", "_law_script", "_law_world", "_law_k", "_law_cell", "_law_marks", "_law_doors", "_law_spot", "_law_door"] ["_law_count", "_law_script"] (defScope sd_world_of) := ⟨rfl, rfl, rfl, by decide +kernel, rfl, by decide +kernel, by decide +kernel⟩
abbrev sd_copy_of : Stmt := top 21
theorem sc_copy_of : FnScope ["_law_world"] ["_law_world"] (defScope sd_copy_of) := ⟨rfl, rfl, rfl, by decide +kernel, rfl, by decide +kernel, by decide +kernel⟩
theorem cs_copy_of_0 : CompSc (defScope sd_copy_of) ["_law_world"] ["_law_state"] [none] { kind := .function, names := [(Str.ofString ".0", .local), (Str.ofString "_law_state", .local), (Str.ofString "list", .globalImplicit)], isGenerator := false, isCoroutine := false, more := [] } := ⟨rfl, by decide +kernel, by decide +kernel, by decide +kernel, by decide +kernel, by decide +kernel⟩
abbrev sd_are_labels : Stmt := top 22
theorem sc_are_labels : FnScope ["_law_found", "_law_world", "_law_k", "_law_label"] ["_law_found", "_law_world"] (defScope sd_are_labels) := ⟨rfl, rfl, rfl, by decide +kernel, rfl, by decide +kernel, by decide +kernel⟩
abbrev sd_lower : Stmt := top 23
theorem sc_lower : FnScope ["_law_ends", "_law_truth", "_law_number", "_law_end"] ["_law_ends", "_law_truth", "_law_number"] (defScope sd_lower) := ⟨rfl, rfl, rfl, by decide +kernel, rfl, by decide +kernel, by decide +kernel⟩
abbrev sd_some_again_right : Stmt := top 24
theorem sc_some_again_right : FnScope ["_law_here", "_law_labels", "_law_k", "_law_doors", "_law_truth", "_law_number", "_law_door", "_law_ends"] ["_law_here", "_law_labels", "_law_k", "_law_doors"] (defScope sd_some_again_right) := ⟨rfl, rfl, rfl, by decide +kernel, rfl, by decide +kernel, by decide +kernel⟩
theorem cs_some_again_right_0 : CompSc (defScope sd_some_again_right) ["_law_here", "_law_labels", "_law_k", "_law_doors", "_law_truth", "_law_number", "_law_door", "_law_ends"] ["_law_one", "_law_labels"] [none, some 1] { kind := .function, names := [(Str.ofString ".0", .local), (Str.ofString "_law_one", .local), (Str.ofString "_law_labels", .free)], isGenerator := false, isCoroutine := false, more := [] } := ⟨rfl, by decide +kernel, by decide +kernel, by decide +kernel, by decide +kernel, by decide +kernel⟩
abbrev sd_truth_rows : Stmt := top 25
theorem sc_truth_rows : FnScope ["_law_cells", "_law_count", "_law_left", "_law_right", "_law_k", "_law_cell"] ["_law_cells", "_law_count"] (defScope sd_truth_rows) := ⟨rfl, rfl, rfl, by decide +kernel, rfl, by decide +kernel, by decide +kernel⟩
abbrev sd_on_way : Stmt := top 26
theorem sc_on_way : FnScope ["_law_sort", "_law_rows", "_law_way", "_law_row", "_law_back", "_law_k", "_law_truth"] ["_law_sort", "_law_rows", "_law_way"] (defScope sd_on_way) := ⟨rfl, rfl, rfl, by decide +kernel, rfl, by decide +kernel, by decide +kernel⟩
theorem cs_on_way_0 : CompSc (defScope sd_on_way) ["_law_sort", "_law_rows", "_law_way", "_law_row", "_law_back", "_law_k", "_law_truth"] ["_law_k", "_law_rows"] [none, some 1] { kind := .function, names := [(Str.ofString ".0", .local), (Str.ofString "_law_k", .local), (Str.ofString "_law_rows", .free)], isGenerator := false, isCoroutine := false, more := [] } := ⟨rfl, by decide +kernel, by decide +kernel, by decide +kernel, by decide +kernel, by decide +kernel⟩
abbrev sd_way_of : Stmt := top 27
theorem sc_way_of : FnScope ["_law_world", "_law_start", "_law_cells", "_law_row", "_law_cell", "_law_doors"] ["_law_world", "_law_start", "_law_cells"] (defScope sd_way_of) := ⟨rfl, rfl, rfl, by decide +kernel, rfl, by decide +kernel, by decide +kernel⟩
abbrev sd_with_others : Stmt := top 28
theorem sc_with_others : FnScope ["_law_script", "_law_world", "_law_made", "_law_k", "_law_many", "_law_more"] ["_law_script", "_law_world"] (defScope sd_with_others) := ⟨rfl, rfl, rfl, by decide +kernel, rfl, by decide +kernel, by decide +kernel⟩
theorem cs_with_others_0 : CompSc (defScope sd_with_others) ["_law_script", "_law_world", "_law_made", "_law_k", "_law_many", "_law_more"] ["_law_spot", "_law_script"] [none, some 0] { kind := .function, names := [(Str.ofString ".0", .local), (Str.ofString "_law_spot", .local), (Str.ofString "_law_first_mark", .globalImplicit), (Str.ofString "_law_script", .free)], isGenerator := false, isCoroutine := false, more := [] } := ⟨rfl, by decide +kernel, by decide +kernel, by decide +kernel, by decide +kernel, by decide +kernel⟩
abbrev sd_law : Stmt := top 29
theorem sc_law : FnScope ["_law_script", "_law_count", "_law_world", "_law_left", "_law_right", "_law_handed", "_law_k", "_law_here", "_law_ones", "_law_found", "_law_start", "_law_way"] ["_law_script"] (defScope sd_law) := ⟨rfl, rfl, rfl, by decide +kernel, rfl, by decide +kernel, by decide +kernel⟩
theorem cs_law_0 : CompSc (defScope sd_law) ["_law_script", "_law_count", "_law_world", "_law_left", "_law_right", "_law_handed", "_law_k", "_law_here", "_law_ones", "_law_found", "_law_start", "_law_way"] ["_law_k", "_law_left", "_law_right"] [none, some 3, some 4] { kind := .function, names := [(Str.ofString ".0", .local), (Str.ofString "_law_k", .local), (Str.ofString "_law_left", .free), (Str.ofString "_law_right", .free)], isGenerator := false, isCoroutine := false, more := [] } := ⟨rfl, by decide +kernel, by decide +kernel, by decide +kernel, by decide +kernel, by decide +kernel⟩
end Ws
namespace Ws
open PySem L2
section
variable {P : Program} {w : World} {K : PySem.W.Frag} {mg : Str → Option Value} {base : Heap}
seal L2.PSs L2.PS L2.PE L2.PA L2.PT L2.PG L2.PF L2.PI
def spDoors : Sp := fun vs H Q _ => ∃ (a : Addr) (k : Nat) (W : World2), vs = [.ref a, .int (k : Int)] ∧ DAt H (.ref a) (wdat W) ∧ k < W.length ∧ ∀ d, H d = some (.lst ((dr W k).map V.int)) → Q (.ref d) H
theorem ok_doors_of {f : Addr} {fd : FuncData} (F : Fun K "doors_of" "doors_of" sd_doors_of f fd) : FnOk P w K mg base CX0 1 f fd ["world", "place"] spDoors := by
  refine F.ok sc_doors_of (fun vs H Q E h => ?_) (fun cdv A outer s H vs Q E hr h => ?_)
  · obtain ⟨a, k, W, rfl, _⟩ := h
    rfl
  obtain ⟨a, k, W, rfl, ha, hk, q⟩ := h
  obtain ⟨a', vs, e, hH, hv⟩ := DAt.lst_inv ha
  cases e
  obtain ⟨u, hu, du⟩ := hv.nth hk
  obtain ⟨t, m, d, rfl, et, em, ed⟩ := sdat_inv du
  refine ⟨_, 
    (pss_one (ps_ret (pe_ix ix_tup (pe_ix ix_list (pv 0) (pv 1) (fun _ _ => rfl)) pe_int (fun _ _ => rfl)))), ?_⟩
  refine ⟨_, rfl, _, rfl, a, _, _, _, rfl, rfl, SqL.of hH, atI_nat hu, t, _, _, _, rfl, rfl, SqT.of et, at1, q d ?_⟩
  rw [ed]
  unfold dr
  rw [getD_eq hk]
end
end Ws

namespace Ws
open PySem L2
section
variable {P : Program} {w : World} {K : PySem.W.Frag} {mg : Str → Option Value} {base : Heap}
seal L2.PSs L2.PS L2.PE L2.PA L2.PT L2.PG L2.PF L2.PI
def spTruths : Sp := fun vs H Q _ => ∃ (c : Addr) (L : List Lb), vs = [.ref c] ∧ DAt H (.ref c) (lsdat L) ∧ L.length ≤ 1000 ∧ ∀ (c' : Addr) (H' : Hp), Same H H' → H c' = none → H' c' = some (.lst ((trs L).map V.bl)) → Q (.ref c') H'
theorem ok_p_truths_of {f : Addr} {fd : FuncData} (F : Fun K "truths_of" "truths_of" sd_p_truths_of f fd) : FnOk P w K mg base CX0 1 f fd ["labels"] spTruths := by
  refine F.ok sc_p_truths_of (fun vs H Q E h => ?_) (fun cdv A outer s H vs Q E hr h => ?_)
  · obtain ⟨a, L, rfl, _⟩ := h
    rfl
  obtain ⟨a, L, rfl, ha, hl, k⟩ := h
  obtain ⟨a', vs, e, hH, hv⟩ := DAt.lst_inv ha
  cases e
  have lv := hv.length
  rw [List.length_map] at lv
  refine ⟨_, 
    (pss_one (ps_ret (pe_comp rfl cs_p_truths_of_0 rfl rfl (pi_list (pv 0)) (fun _ _ _ _ _ => pg_name (i := 0) cs_p_truths_of_0.nd rfl (Or.inl rfl)) (fun _ _ _ _ _ => pf_nil) (fun _ _ _ _ _ => (pe_ix cix_tup (pv 0) pe_int (fun _ _ => rfl)))))), ?_⟩
  refine ⟨_, rfl, a, rfl, ⟨_, SqL.of hH⟩, fun D hD => ?_⟩
  refine comp_over (xs := vs) (fun i ys τ H' => ys = ((trs L).take i).map V.bl ∧ H' D = some (.lst ys) ∧ Same H H' ∧ ∃ v, τ = [v]) ⟨rfl, upd_same, same_new hD _, none, rfl⟩ (fun i ys τ H' _ h => SqL.of (h.2.2.1 _ _ hH)) ?_ ?_
  · rintro i y ys τ H1 hy ⟨rfl, hD1, sm, v, rfl⟩
    have hi : i < L.length := by rw [← lv]; exact (List.getElem?_eq_some_iff.mp hy).1
    obtain ⟨u, hu, du⟩ := hv.nth hi
    rw [hy] at hu
    cases hu
    obtain ⟨t, rfl, et⟩ := lbdat_inv du
    refine ⟨_, rfl, t, _, _, _, rfl, rfl, SqT.of (sm _ _ et), at0, hD1, line_lt ?_, ?_, upd_same, same_upd sm hD _, _, rfl⟩
    · rw [List.length_map, List.length_take]
      unfold trs
      rw [List.length_map]
      omega
    · have e : (trs L)[i]? = some L[i].1 := by
        unfold trs
        exact map_nth hi
      rw [List.take_add_one, e, List.map_append]
      rfl
  · rintro ys τ H1 ⟨rfl, hD1, sm, v, rfl⟩
    refine k D H1 sm hD ?_
    rw [hD1, lv, List.take_of_length_le (by unfold trs; rw [List.length_map]; exact Nat.le_refl _)]
end
end Ws

namespace Ws
open PySem L2
section
variable {P : Program} {w : World} {K : PySem.W.Frag} {mg : Str → Option Value} {base : Heap}
seal L2.PSs L2.PS L2.PE L2.PA L2.PT L2.PG L2.PF L2.PI
def spEvery : Sp := fun vs H Q _ => ∃ (a : Addr) (W : World2), vs = [.ref a] ∧ DAt H (.ref a) (wdat W) ∧ W.length ≤ 1000 ∧ ∀ (c' : Addr) (H' : Hp), Same H H' → H c' = none → H' c' = some (.lst ((allT W.length).map V.bl)) → Q (.ref c') H'
theorem ok_everywhere {f : Addr} {fd : FuncData} (F : Fun K "everywhere" "everywhere" sd_everywhere f fd) : FnOk P w K mg base CX0 1 f fd ["world"] spEvery := by
  refine F.ok sc_everywhere (fun vs H Q E h => ?_) (fun cdv A outer s H vs Q E hr h => ?_)
  · obtain ⟨a, W, rfl, _⟩ := h
    rfl
  obtain ⟨a, W, rfl, ha, hl, k⟩ := h
  obtain ⟨a', vs, e, hH, hv⟩ := DAt.lst_inv ha
  cases e
  have lv := hv.length
  rw [List.length_map] at lv
  refine ⟨_, 
    (pss_one (ps_ret (pe_comp rfl cs_everywhere_0 rfl rfl (pi_list (pv 0)) (fun _ _ _ _ _ => pg_name (i := 0) cs_everywhere_0.nd rfl (Or.inl rfl)) (fun _ _ _ _ _ => pf_nil) (fun _ _ _ _ _ => pe_bl)))), ?_⟩
  refine ⟨_, rfl, a, rfl, ⟨_, SqL.of hH⟩, fun D hD => ?_⟩
  refine comp_over (xs := vs) (fun i ys τ H' => i ≤ 1000 ∧ ys = (allT i).map V.bl ∧ H' D = some (.lst ys) ∧ Same H H' ∧ ∃ v, τ = [v]) ⟨Nat.zero_le _, rfl, upd_same, same_new hD _, none, rfl⟩ (fun i ys τ H' _ h => SqL.of (h.2.2.2.1 _ _ hH)) ?_ ?_
  · rintro i y ys τ H1 hy ⟨hi, rfl, hD1, sm, v, rfl⟩
    have hi' := (List.getElem?_eq_some_iff.mp hy).1
    refine ⟨hD1, line_lt ?_, by omega, ?_, upd_same, same_upd sm hD _, _, rfl⟩
    · unfold allT
      rw [List.length_map, List.length_replicate]
      omega
    · unfold allT
      rw [List.replicate_succ', List.map_append]
      rfl
  · rintro ys τ H1 ⟨_, rfl, hD1, sm, v, rfl⟩
    refine k D H1 sm hD ?_
    rw [hD1, lv]
end
end Ws

namespace Ws
open PySem L2
section
variable {P : Program} {w : World} {K : PySem.W.Frag} {mg : Str → Option Value} {base : Heap}
seal L2.PSs L2.PS L2.PE L2.PA L2.PT L2.PG L2.PF L2.PI
def spDoorTo : Sp := fun vs H Q _ => ∃ (a c : Addr) (k n b : Nat) (W : World2) (want : List Bool), vs = [.ref a, .int (k : Int), .ref c] ∧ DAt H (.ref a) (wdat W) ∧ Valid n b W ∧ k < n ∧ H c = some (.lst (want.map V.bl)) ∧ want.length = n ∧
  Q (ov (doorTo (dr W k) want)) H
theorem ok_door_to {f g : Addr} {fd gd : FuncData} (F : Fun K "door_to" "door_to" sd_door_to f fd) (G_doors_of : FnOk P w K mg base CX0 1 g gd ["world", "place"] spDoors) (M_doors_of : MG K mg "doors_of" ["world", "place"] g gd) :
    FnOk P w K mg base CX0 2 f fd ["world", "place", "wanted"] spDoorTo := by
  refine F.ok sc_door_to (fun vs H Q E h => ?_) (fun cdv A outer s H vs Q E hr h => ?_)
  · obtain ⟨a, c, k, n, b, W, want, rfl, _⟩ := h
    rfl
  obtain ⟨a, c, k, n, b, W, want, rfl, ha, hW, hk, hc, lc, q⟩ := h
  have inn := (dr_in hW hk).2
  refine ⟨_, 
    (pss_cons (ps_for PassesOwn.never rfl (pi_list (pe_call G_doors_of (hr.mono (by decide)) rfl M_doors_of.m M_doors_of.k M_doors_of.b .nil pass0 (pa_cons (pv 0) (pa_cons (pv 1) pa_nil)))) (pg_name (i := 3) sc_door_to.nd rfl (Or.inl rfl))
    (pss_one (ps_if (pt_val (pe_ix ix_list (pv 2) (pv 3) (fun _ _ => rfl)))
    (pss_one (ps_ret (pv 3)))
    pss_nil)))
    (pss_one (ps_ret pe_non))), ?_⟩
  refine ⟨_, rfl, _, rfl, a, k, W, rfl, ha, by rw [hW.len]; exact hk, fun d hd => ⟨d, rfl, ⟨_, SqL.of hd⟩, for_list (K := K) (a := d) (xs := (dr W k).map V.int)
    (fun i σ' H' => ∃ o3, σ' = [some (.ref a), some (.int (k : Int)), some (.ref c), o3] ∧ H' = H ∧ ∀ j, j < i → ∀ e, (dr W k)[j]? = some e → want.getD e.toNat false = false)
    ⟨none, rfl, rfl, fun j hj => absurd hj (Nat.not_lt_zero _)⟩ (fun i σ' H' _ ⟨_, _, e, _⟩ => by rw [e]; exact SqL.of hd) ?_ ?_⟩⟩
  · rintro i y σ' H1 hy ⟨o3, rfl, rfl, no⟩
    obtain ⟨e, rfl, he⟩ := int_mem hy
    obtain ⟨e0, e1⟩ := inn e (List.mem_of_getElem? he)
    have ea : atI (want.map V.bl) e = some (V.bl (want.getD e.toNat false)) := by
      have := row_at (H := H1) (a := a) (l := want) (k := e.toNat) (by omega)
      rwa [show ((e.toNat : Nat) : Int) = e by omega] at this
    refine ⟨_, rfl, _, rfl, c, _, _, _, rfl, rfl, SqL.of hc, ea, _, rfl, ?_⟩
    cases hw : want.getD e.toNat false with
    | true =>
      refine iteT ⟨_, rfl, ?_⟩
      have : doorTo (dr W k) want = some e := by
        unfold doorTo
        obtain ⟨hi, hx⟩ := List.getElem?_eq_some_iff.mp he
        rw [List.find?_eq_some_iff_getElem]
        refine ⟨hw, i, hi, hx, fun j hj => ?_⟩
        rw [no j hj _ (List.getElem?_eq_getElem (by omega))]
        rfl
      rw [this] at q
      exact q
    | false =>
      refine iteF ⟨_, rfl, rfl, fun j hj e' he' => ?_⟩
      by_cases hji : j = i
      · subst hji
        rw [he] at he'
        cases he'
        exact hw
      · exact no j (by omega) e' he'
  · rintro σ' H1 ⟨o3, rfl, rfl, no⟩
    rw [List.length_map] at no
    have : doorTo (dr W k) want = none := by
      unfold doorTo
      rw [List.find?_eq_none]
      intro e he
      obtain ⟨j, hj, e'⟩ := List.getElem_of_mem he
      rw [no j hj e (by rw [List.getElem?_eq_getElem hj, e'])]
      exact Bool.false_ne_true
    rw [this] at q
    exact q
end
end Ws

namespace Ws
open PySem L2
section
variable {P : Program} {w : World} {K : PySem.W.Frag} {mg : Str → Option Value} {base : Heap}
seal L2.PSs L2.PS L2.PE L2.PA L2.PT L2.PG L2.PF L2.PI
def whoS (sm : Bool) : Str := if sm then "some" else "all"
def spJoined : Sp := fun vs H Q _ => ∃ (a c : Addr) (k n b : Nat) (m : Int) (sm : Bool) (W : World2) (reached : List Bool), vs = [.ref a, .int (k : Int), .ref c, .int m, .str (whoS sm)] ∧ DAt H (.ref a) (wdat W) ∧ Valid n b W ∧ b ≤ 1000 ∧ k < n ∧
  H c = some (.lst (reached.map V.bl)) ∧ reached.length = n ∧ ∀ (t : Addr) (H' : Hp), Same H H' → H t = none → H' t = some (.tup [.bl (joinL sm (dr W k) reached m).1, ov (joinL sm (dr W k) reached m).2.1, ov (joinL sm (dr W k) reached m).2.2]) → Q (.ref t) H'
theorem ok_joined_label {f g h : Addr} {fd gd hd : FuncData} (F : Fun K "joined_label" "joined_label" sd_joined_label f fd) (B2 : Blt2 mg) (G_doors_of : FnOk P w K mg base CX0 1 g gd ["world", "place"] spDoors) (M_doors_of : MG K mg "doors_of" ["world", "place"] g gd)
    (G_door_to : FnOk P w K mg base CX0 2 h hd ["world", "place", "wanted"] spDoorTo) (M_door_to : MG K mg "door_to" ["world", "place", "wanted"] h hd) : FnOk P w K mg base CX0 3 f fd ["world", "place", "reached", "number", "who"] spJoined := by
  refine F.ok sc_joined_label (fun vs H Q E h => ?_) (fun cdv A outer s H vs Q E hr h => ?_)
  · obtain ⟨a, c, k, n, b, m, sm, W, reached, rfl, _⟩ := h
    rfl
  obtain ⟨a, c, k, n, b, m, sm, W, reached, rfl, ha, hW, hb, hk, hc, lc, q⟩ := h
  have inn := (dr_in hW hk).2
  have kW : k < W.length := by rw [hW.len]; exact hk
  refine ⟨_, 
    (pss_cons (ps_if (pt_cmpR op_eq (pv 4) pe_str (nomark _))
    (pss_cons (ps_set (i := 5) sc_joined_label.nd rfl (Or.inl rfl) (pe_call G_door_to (hr.mono (by decide)) rfl M_door_to.m M_door_to.k M_door_to.b .nil pass0 (pa_cons (pv 0) (pa_cons (pv 1) (pa_cons (pv 2) pa_nil)))))
    (pss_one (ps_ret (pe_ifExp (pt_cmp (pc_isN (pv 5))) (pe_tup (pa_cons pe_bl (pa_cons pe_non (pa_cons pe_non pa_nil)))) (pe_tup (pa_cons pe_bl (pa_cons (pv 3) (pa_cons (pv 5) pa_nil))))))))
    pss_nil)
    (pss_cons (ps_set (i := 6) sc_joined_label.nd rfl (Or.inl rfl) (pe_callB (call_all rfl) rfl B2.all bAll (pa_cons (pe_comp rfl cs_joined_label_0 rfl rfl (pi_list (pe_call G_doors_of (hr.mono (by decide)) rfl M_doors_of.m M_doors_of.k M_doors_of.b .nil pass0 (pa_cons (pv 0) (pa_cons (pv 1) pa_nil)))) (fun _ _ _ _ _ => pg_name (i := 0) cs_joined_label_0.nd rfl (Or.inl rfl)) (fun _ _ _ _ _ => pf_nil) (fun _ _ _ _ _ => (pe_ix cix_list (pv 1) (pv 0) (fun _ _ => rfl)))) pa_nil)))
    (pss_one (ps_ret (pe_ifExp (pt_val (pv 6)) (pe_tup (pa_cons pe_bl (pa_cons (pv 3) (pa_cons pe_non pa_nil)))) (pe_tup (pa_cons pe_bl (pa_cons pe_non (pa_cons pe_non pa_nil))))))))), ?_⟩
  cases sm with
  | true =>
    refine ⟨_, rfl, rfl, _, rfl, itS (fun _ => ?_) (fun h => absurd rfl h)⟩
    refine ⟨_, rfl, _, rfl, _, rfl, a, c, k, n, b, W, reached, rfl, ha, hW, hk, hc, lc, ?_⟩
    unfold joinL at q
    rw [if_pos rfl] at q
    cases hd : doorTo (dr W k) reached with
    | none =>
      rw [hd] at q
      exact ⟨_, rfl, _, rfl, iteT ⟨line_le (by show 3 ≤ 16000000; decide), fun t ht => q t _ (same_new ht _) ht upd_same⟩⟩
    | some e =>
      rw [hd] at q
      exact ⟨_, rfl, _, rfl, iteF ⟨_, rfl, _, rfl, line_le (by show 3 ≤ 16000000; decide), fun t ht => q t _ (same_new ht _) ht upd_same⟩⟩
  | false =>
    refine ⟨_, rfl, rfl, _, rfl, itS (fun h => absurd h (by decide +kernel)) (fun _ => ?_)⟩
    refine ⟨_, rfl, _, rfl, a, k, W, rfl, ha, kW, fun d hd => ⟨d, rfl, ⟨_, SqL.of hd⟩, fun D hD => ?_⟩⟩
    have few : (dr W k).length ≤ 1000 := by
      obtain ⟨_, _, _, _, _, _, _, _, _, l⟩ := doors_at ha hW hk
      omega
    refine comp_over (xs := (dr W k).map V.int) (fun i ys τ H' => ys = (((dr W k).take i).map fun e => reached.getD e.toNat false).map V.bl ∧ H' D = some (.lst ys) ∧ Same H H' ∧ ∃ v, τ = [v, some (.ref c)]) ⟨rfl, upd_same, same_new hD _, none, rfl⟩ (fun i ys τ H' _ h => SqL.of (h.2.2.1 _ _ hd)) ?_ ?_
    · rintro i y ys τ H1 hy ⟨rfl, hD1, sm, v, rfl⟩
      obtain ⟨e, rfl, he⟩ := int_mem hy
      obtain ⟨e0, e1⟩ := inn e (List.mem_of_getElem? he)
      have ea : atI (reached.map V.bl) e = some (V.bl (reached.getD e.toNat false)) := by
        have := row_at (H := H1) (a := a) (l := reached) (k := e.toNat) (by omega)
        rwa [show ((e.toNat : Nat) : Int) = e by omega] at this
      refine ⟨_, rfl, _, rfl, c, _, _, _, rfl, rfl, SqL.of (sm _ _ hc), ea, hD1, line_lt ?_, ?_, upd_same, same_upd sm hD _, _, rfl⟩
      · rw [List.length_map, List.length_map, List.length_take]
        omega
      · rw [List.take_add_one, he, List.map_append, List.map_append]
        rfl
    · rintro ys τ H1 ⟨rfl, hD1, sm, v, rfl⟩
      rw [List.length_map, List.take_length] at hD1
      refine ⟨D, _, rfl, SqL.of hD1, ?_⟩
      have e : (((dr W k).map fun e => reached.getD e.toNat false).all id) = (dr W k).all fun e => reached.getD e.toNat false := by rw [List.all_map]; rfl
      rw [e]
      unfold joinL at q
      rw [if_neg Bool.false_ne_true] at q
      cases hq : (dr W k).all (fun e => reached.getD e.toNat false) with
      | true =>
        rw [hq] at q
        exact ⟨_, rfl, _, rfl, iteT ⟨_, rfl, line_le (by show 3 ≤ 16000000; decide), fun t ht => q t _ (sm.trans (same_new ht _)) (sm.free ht) upd_same⟩⟩
      | false =>
        rw [hq] at q
        exact ⟨_, rfl, _, rfl, iteF ⟨line_le (by show 3 ≤ 16000000; decide), fun t ht => q t _ (sm.trans (same_new ht _)) (sm.free ht) upd_same⟩⟩
end
end Ws

namespace Ws
open PySem L2
section
variable {P : Program} {w : World} {K : PySem.W.Frag} {mg : Str → Option Value} {base : Heap}
seal L2.PSs L2.PS L2.PE L2.PA L2.PT L2.PG L2.PF L2.PI
def spGrownL : Sp := fun vs H Q _ => ∃ (a l r : Addr) (sm : Bool) (n b : Nat) (W : World2) (left right : List Bool), vs = [.ref a, .ref l, .ref r, .str (whoS sm)] ∧ DAt H (.ref a) (wdat W) ∧ Valid n b W ∧ n ≤ 1000 ∧ b ≤ 1000 ∧
  H l = some (.lst (left.map V.bl)) ∧ H r = some (.lst (right.map V.bl)) ∧ left.length = n ∧ right.length = n ∧
  ∀ (q : Addr) (L : List Lb) (us : List V) (m : Int) (H' : Hp), Grow lbdat H H' q L us → GrowInv sm W n left right m L → Still sm W n left L → Q (.ref q) H'
theorem ok_grown_labels {f g h : Addr} {fd gd hd : FuncData} (F : Fun K "grown_labels" "grown_labels" sd_grown_labels f fd) (B : Blt mg) (G_p_truths_of : FnOk P w K mg base CX0 1 g gd ["labels"] spTruths) (M_p_truths_of : MG K mg "truths_of" ["labels"] g gd)
    (G_joined_label : FnOk P w K mg base CX0 3 h hd ["world", "place", "reached", "number", "who"] spJoined) (M_joined_label : MG K mg "joined_label" ["world", "place", "reached", "number", "who"] h hd) : FnOk P w K mg base CX0 4 f fd ["world", "left", "right", "who"] spGrownL := by
  refine F.ok sc_grown_labels (fun vs H Q E h => ?_) (fun cdv A outer s H vs Q E hr h => ?_)
  · obtain ⟨a, l, r, sm, n, b, W, left, right, rfl, _⟩ := h
    rfl
  obtain ⟨a, l, r, sm, n, b, W, left, right, rfl, ha, hW, hn, hb, hl, hr', ll, lr, q⟩ := h
  obtain ⟨a', ws, e, hA, hw⟩ := DAt.lst_inv ha
  cases e
  have lw := hw.length
  rw [List.length_map, hW.len] at lw
  refine ⟨_, 
    (pss_cons (ps_comp (i := 4) sc_grown_labels.nd rfl rfl rfl cs_grown_labels_0 rfl rfl (pi_list (pv 2)) (fun _ _ _ _ _ => pg_name (i := 0) cs_grown_labels_0.nd rfl (Or.inl rfl)) (fun _ _ _ _ _ => pf_nil) (fun _ _ _ _ _ => (pe_ifExp (pt_val (pv 0)) (pe_tup (pa_cons pe_bl (pa_cons pe_int (pa_cons pe_non pa_nil)))) (pe_tup (pa_cons pe_bl (pa_cons pe_non (pa_cons pe_non pa_nil)))))))
    (pss_cons (ps_set (i := 5) sc_grown_labels.nd rfl (Or.inl rfl) pe_int)
    (pss_cons (ps_set (i := 6) sc_grown_labels.nd rfl (Or.inl rfl) pe_bl)
    (pss_cons (ps_while PassesOwn.never (pt_val (pv 6))
    (pss_cons (ps_set (i := 5) sc_grown_labels.nd rfl (Or.inl rfl) (pe_op op_add (pv 5) pe_int))
    (pss_cons (ps_set (i := 6) sc_grown_labels.nd rfl (Or.inl rfl) pe_bl)
    (pss_cons (ps_set (i := 7) sc_grown_labels.nd rfl (Or.inl rfl) (pe_call G_p_truths_of (hr.mono (by decide)) rfl M_p_truths_of.m M_p_truths_of.k M_p_truths_of.b .nil pass0 (pa_cons (pv 4) pa_nil)))
    (pss_one (ps_for PassesOwn.never rfl (pi_range1 rfl B.range (pa_cons (pe_callB call_len_seq rfl B.len PySem.boot_len (pa_cons (pv 0) pa_nil)) pa_nil)) (pg_name (i := 8) sc_grown_labels.nd rfl (Or.inl rfl))
    (pss_one (ps_if (PW.pt (pw_and (pt_val (pe_ix ix_list (pv 1) (pv 8) (fun _ _ => rfl))) (pw_and1 (pt_not (pt_val (pe_ix ix_list (pv 7) (pv 8) (fun _ _ => rfl)))))))
    (pss_cons (ps_asg (pe_call G_joined_label (hr.mono (by decide)) rfl M_joined_label.m M_joined_label.k M_joined_label.b .nil pass0 (pa_cons (pv 0) (pa_cons (pv 8) (pa_cons (pv 7) (pa_cons (pv 5) (pa_cons (pv 3) pa_nil)))))) (pg_sub (pv 4) (pv 8) set_list))
    (pss_one (ps_set (i := 6) sc_grown_labels.nd rfl (Or.inl rfl) (pe_or (pv 6) (pe_one (pe_ix ix_tup (pe_ix ix_list (pv 4) (pv 8) (fun _ _ => rfl)) pe_int (fun _ _ => rfl)))))))
    pss_nil))))))))
    (pss_one (ps_ret (pv 4))))))), ?_⟩
  refine ⟨_, rfl, r, rfl, ⟨_, SqL.of hr'⟩, fun p hp => ?_⟩
  refine comp_over (xs := right.map V.bl) (fun i ys τ H' => Grow lbdat H H' p (startL (right.take i)) ys ∧ ∃ v, τ = [v]) ⟨Grow.start hp, none, rfl⟩ (fun i ys τ H' _ h => SqL.of (h.1.same _ _ hr')) ?_ ?_
  · rintro i y ys τ H1 hy ⟨gr, v, rfl⟩
    obtain ⟨x, hx, rfl⟩ : ∃ x, right[i]? = some x ∧ V.bl x = y := by
      rw [List.getElem?_map] at hy
      cases e : right[i]? with
      | none => rw [e] at hy; cases hy
      | some x => rw [e] at hy; exact ⟨x, rfl, Option.some.inj hy⟩
    have lg := gr.len
    unfold startL at lg
    rw [List.length_map, List.length_take] at lg
    have tk : startL (right.take (i + 1)) = startL (right.take i) ++ [if x then (true, some 0, none) else (false, none, none)] := by
      unfold startL
      rw [List.take_add_one, hx, List.map_append]
      rfl
    rw [tk]
    refine ⟨_, rfl, _, rfl, ?_⟩
    cases x with
    | true =>
      refine iteT ⟨line_le (by show 3 ≤ 16000000; decide), fun t ht => ?_⟩
      have nt := gr.fresh_ne ht
      have g2 := gr.keep (same_new ht (.tup [V.bl true, V.int 0, V.non]))
      refine ⟨g2.at_, line_lt (by omega), g2.push (v := .ref t) (t := (true, some 0, none)) (lbdat_mk (l := (true, some 0, none)) (by rw [del_ne nt]; exact upd_same)), _, rfl⟩
    | false =>
      refine iteF ⟨line_le (by show 3 ≤ 16000000; decide), fun t ht => ?_⟩
      have nt := gr.fresh_ne ht
      have g2 := gr.keep (same_new ht (.tup [V.bl false, V.non, V.non]))
      refine ⟨g2.at_, line_lt (by omega), g2.push (v := .ref t) (t := (false, none, none)) (lbdat_mk (l := (false, none, none)) (by rw [del_ne nt]; exact upd_same)), _, rfl⟩
  rintro ys τ H1 ⟨gr0, v, rfl⟩
  rw [List.length_map, List.take_length] at gr0
  have l0 : (startL right).length = n := by unfold startL; rw [List.length_map, lr]
  have i0 : GrowInv sm W n left right 0 (startL right) := GrowInv.start l0 (fun k hk => start_at (by omega)) b hW
  refine ⟨fun c σ' H' => ∃ (m : Int) (L : List Lb) (us : List V) (gw : Bool) (o7 o8 : Option V), σ' = [some (.ref a), some (.ref l), some (.ref r), some (.str (whoS sm)), some (.ref p), some (.int m), some (.bl gw), o7, o8] ∧
      Grow lbdat H H' p L us ∧ GrowInv sm W n left right m L ∧ (gw = false → Still sm W n left L) ∧ c = (if gw then 1 else 0) + cf n L,
    ⟨_, 0, _, _, true, none, none, rfl, gr0, i0, (fun z => nomatch z), rfl⟩, ?_⟩
  clear gr0 i0 l0
  rintro c σ' H2 ⟨m, L, us, gw, o7, o8, rfl, gr, gi, stl, rfl⟩
  refine ⟨_, rfl, _, rfl, ?_⟩
  cases gw with
  | false => exact iteF ⟨_, rfl, q p L us m H2 gr gi (stl rfl)⟩
  | true =>
    refine iteT ⟨_, fun _ _ h => h, ?_⟩
    refine ⟨_, rfl, _, _, rfl, rfl, ?_⟩
    refine ⟨_, rfl, p, L, rfl, gr.done, by rw [gi.len]; exact hn, fun rr H3 s3 hf hrr => ?_⟩
    have nr : rr ≠ p := gr.fresh_ne hf
    have g3 := gr.keep s3
    refine ⟨_, rfl, a, _, rfl, .inl (SqL.of (g3.same _ _ hA)), _, rfl, by omega, by omega, for_range (lo := 0) (n := ws.length)
      (fun i σ' H' => ∃ (L' : List Lb) (us' : List V) (o8 : Option V), σ' = [some (.ref a), some (.ref l), some (.ref r), some (.str (whoS sm)), some (.ref p), some (.int (m + 1)), some (.bl (grewB sm W left m L i)), some (.ref rr), o8] ∧
        Grow lbdat H H' p L' us' ∧ H' rr = some (.lst ((trs L).map V.bl)) ∧ L'.length = n ∧ ∀ k, k < n → L'.getD k default = if k < i then newL sm W left m L k else L.getD k default)
      ⟨L, us, _, rfl, g3, hrr, gi.len, fun k _ => by rw [if_neg (Nat.not_lt_zero k)]⟩ ?_ ?_⟩
    · rintro i σ' H4 hi ⟨L', us', o8, rfl, g4, hrr4, l4, h4⟩
      rw [lw] at hi
      have ia : atI (left.map V.bl) (0 + (i : Int)) = some (V.bl (left.getD i false)) := by rw [Int.zero_add]; exact row_at (H := H) (a := a) (by omega)
      have ib : atI ((trs L).map V.bl) (0 + (i : Int)) = some (V.bl (L.getD i default).1) := by
        rw [Int.zero_add, ← trs_at]
        exact row_at (H := H) (a := a) (by unfold trs; rw [List.length_map, gi.len]; exact hi)
      have nxt : ∀ k, k < n → (if k < i + 1 then newL sm W left m L k else L.getD k default) = if k = i then newL sm W left m L i else if k < i then newL sm W left m L k else L.getD k default := fun k _ => by
        by_cases e : k = i
        · subst e
          rw [if_pos (Nat.lt_succ_self _), if_pos rfl]
        · rw [if_neg e]
          by_cases e2 : k < i
          · rw [if_pos e2, if_pos (by omega)]
          · rw [if_neg e2, if_neg (by omega)]
      refine ⟨_, rfl, _, rfl, l, _, _, _, rfl, rfl, SqL.of (g4.same _ _ hl), ia, _, rfl, ?_⟩
      -- nothing happens here
      have skip : (left.getD i false && !(L.getD i default).1) = false → ∃ (L'' : List Lb) (us'' : List V) (o8' : Option V), [some (V.ref a), some (.ref l), some (.ref r), some (.str (whoS sm)), some (.ref p), some (.int (m + 1)), some (.bl (grewB sm W left m L i)), some (.ref rr), some (.int (0 + (i : Int)))] = [some (.ref a), some (.ref l), some (.ref r), some (.str (whoS sm)), some (.ref p), some (.int (m + 1)), some (.bl (grewB sm W left m L (i + 1))), some (.ref rr), o8'] ∧
          Grow lbdat H H4 p L'' us'' ∧ H4 rr = some (.lst ((trs L).map V.bl)) ∧ L''.length = n ∧ ∀ k, k < n → L''.getD k default = if k < i + 1 then newL sm W left m L k else L.getD k default := fun hc => by
        have e : newL sm W left m L i = L.getD i default := by unfold newL; rw [hc, if_neg Bool.false_ne_true]
        have eg : grewB sm W left m L (i + 1) = grewB sm W left m L i := by
          rw [grew_succ, e]
          cases (L.getD i default).1 <;> simp
        refine ⟨L', us', _, by rw [eg], g4, hrr4, l4, fun k hk => ?_⟩
        rw [nxt k hk, h4 k hk]
        by_cases ek : k = i
        · subst ek
          rw [if_neg (Nat.lt_irrefl _), if_pos rfl, e]
        · rw [if_neg ek]
      cases hle : left.getD i false with
      | false => exact iteF (skip (by rw [hle]; rfl))
      | true =>
        refine iteT ⟨_, rfl, _, rfl, rr, _, _, _, rfl, rfl, SqL.of hrr4, ib, _, rfl, ?_⟩
        cases hre : (L.getD i default).1 with
        | true => exact iteF (skip (by rw [hle, hre]; rfl))
        | false =>
          have ec : newL sm W left m L i = joinL sm (dr W i) (trs L) (m + 1) := by unfold newL; rw [hle, hre]; rfl
          refine iteT ⟨_, rfl, _, rfl, _, rfl, _, rfl, _, rfl, a, rr, i, n, b, m + 1, sm, W, trs L, by rw [Int.zero_add]; rfl, ha.mono g4.same, hW, hb, hi, hrr4, by unfold trs; rw [List.length_map, gi.len], fun t H5 s5 ht5 et => ?_⟩
          rw [← ec] at et
          have nt := g4.fresh_ne ht5
          have g5 := g4.keep s5
          have hrr5 := s5 _ _ hrr4
          have lu := g5.len
          have g6 := g5.put (v := .ref t) (t := newL sm W left m L i) i (lbdat_mk (by rw [del_ne nt]; exact et))
          refine ⟨_, rfl, _, rfl, p, us', _, i, rfl, rfl, g5.at_, by rw [Int.zero_add]; exact ixN_nat (by omega), ?_⟩
          have hrr6 : upd H5 p (.lst (us'.set i (.ref t))) rr = some (.lst ((trs L).map V.bl)) := by rw [upd_ne nr]; exact hrr5
          have l6 : (L'.set i (newL sm W left m L i)).length = n := by rw [List.length_set, l4]
          have f6 : ∀ k, k < n → (L'.set i (newL sm W left m L i)).getD k default = if k < i + 1 then newL sm W left m L k else L.getD k default := fun k hk => by
            rw [nxt k hk, set_at (by omega), h4 k hk]
          have eg := grew_succ sm W left m L i
          rw [hre] at eg
          refine ⟨_, rfl, _, rfl, ?_⟩
          cases hg : grewB sm W left m L i with
          | true =>
            rw [hg] at eg
            refine iteT ⟨_, _, _, by rw [eg]; rfl, g6, hrr6, l6, f6⟩
          | false =>
            rw [hg] at eg
            obtain ⟨t', a1, a2⟩ := g6.lab (k := i) (by omega)
            rw [set_at (by omega), if_pos rfl] at a2
            refine iteF ⟨_, rfl, _, rfl, p, _, _, _, rfl, rfl, SqL.of g6.at_, by rw [Int.zero_add]; exact a1, t', _, _, _, rfl, rfl, SqT.of a2, at0, _, _, _, by rw [eg]; rfl, g6, hrr6, l6, f6⟩
    · rintro σ' H4 ⟨L', us', o8, rfl, g4, hrr4, l4, h4⟩
      rw [lw] at h4 ⊢
      have h5 : ∀ k, k < n → L'.getD k default = newL sm W left m L k := fun k hk => by rw [h4 k hk, if_pos hk]
      have gi' := gi.step hW l4 h5
      refine ⟨_, ?_, m + 1, L', us', _, _, _, rfl, g4, gi', fun hg => ?_, rfl⟩
      · have le := cf_le (tru_keep h5)
        cases hg : grewB sm W left m L n with
        | false =>
          show 0 + cf n L' < 1 + cf n L
          omega
        | true =>
          unfold grewB at hg
          rw [List.any_eq_true] at hg
          obtain ⟨k, hk, hg⟩ := hg
          rw [Bool.and_eq_true] at hg
          have lt := cf_lt (tru_keep h5) ⟨k, List.mem_range.mp hk, by simpa using hg.1, by rw [h5 k (List.mem_range.mp hk)]; exact hg.2⟩
          show 1 + cf n L' < 1 + cf n L
          omega
      · refine still_of (m := m) h5 (fun k hk hf => ?_) fun k hk => (dr_in hW hk).2
        rw [h5 k hk]
        unfold grewB at hg
        rw [List.any_eq_false] at hg
        have := hg k (List.mem_range.mpr hk)
        rw [hf] at this
        cases hz : (newL sm W left m L k).1 with
        | false => rfl
        | true => rw [hz] at this; exact absurd rfl this
def spUntilG (sm : Bool) : Sp := fun vs H Q _ => ∃ (a l r : Addr) (n b : Nat) (W : World2) (left right : List Bool), vs = [.ref a, .ref l, .ref r] ∧ DAt H (.ref a) (wdat W) ∧ Valid n b W ∧ n ≤ 1000 ∧ b ≤ 1000 ∧
  H l = some (.lst (left.map V.bl)) ∧ H r = some (.lst (right.map V.bl)) ∧ left.length = n ∧ right.length = n ∧
  ∀ (q : Addr) (L : List Lb) (us : List V) (H' : Hp), Grow lbdat H H' q L us → L.length = n → (∀ k, k < n → lbOk (L.getD k default) (dr W k) = true) → (∀ k, k < n → (if sm then suR2 left right L k (dr W k) else auR left right L k (dr W k)) = true) → Q (.ref q) H'
end
end Ws

namespace Ws
open PySem L2
section
variable {P : Program} {w : World} {K : PySem.W.Frag} {mg : Str → Option Value} {base : Heap}
seal L2.PSs L2.PS L2.PE L2.PA L2.PT L2.PG L2.PF L2.PI
theorem ok_some_until {f g : Addr} {fd gd : FuncData} (F : Fun K "some_until" "some_until" sd_some_until f fd) (G_grown_labels : FnOk P w K mg base CX0 4 g gd ["world", "left", "right", "who"] spGrownL) (M_grown_labels : MG K mg "grown_labels" ["world", "left", "right", "who"] g gd) :
    FnOk P w K mg base CX0 5 f fd ["world", "left", "right"] (spUntilG true) := by
  refine F.ok sc_some_until (fun vs H Q E h => ?_) (fun cdv A outer s H vs Q E hr h => ?_)
  · obtain ⟨a, l, r, n, b, W, left, right, rfl, _⟩ := h
    rfl
  obtain ⟨a, l, r, n, b, W, left, right, rfl, ha, hW, hn, hb, hl, hr', ll, lr, q⟩ := h
  refine ⟨_, 
    (pss_one (ps_ret (pe_call G_grown_labels (hr.mono (by decide)) rfl M_grown_labels.m M_grown_labels.k M_grown_labels.b .nil pass0 (pa_cons (pv 0) (pa_cons (pv 1) (pa_cons (pv 2) (pa_cons pe_str pa_nil))))))), ?_⟩
  refine ⟨_, rfl, _, rfl, _, rfl, a, l, r, true, n, b, W, left, right, rfl, ha, hW, hn, hb, hl, hr', ll, lr, fun q' L us m H' gr gi st => ?_⟩
  have d := su_done hW gi st
  exact q q' L us H' gr gi.len (fun k hk => (d k hk).1) fun k hk => (d k hk).2
theorem until_some {f : Addr} {fd : FuncData} (G : FnOk P w K mg base CX0 5 f fd ["world", "left", "right"] (spUntilG true)) : FnOk P w K mg base CX0 20 f fd ["world", "left", "right"] (spUntil suR) :=
  (G.mono (by decide)).imp fun vs H Q E h => by
    obtain ⟨a, b, c, n, W, left, right, rfl, hW, hv, n1, n2, hl, hr, ll, lr, q⟩ := h
    exact ⟨a, b, c, n, 200, W, left, right, rfl, hW, hv, by omega, by decide, hl, hr, ll, lr, fun q' L us H' gr len ok su => q (.ref q') L H' gr.same gr.done len ok fun k hk => su2_su (su k hk)⟩
end
end Ws

namespace Ws
open PySem L2
section
variable {P : Program} {w : World} {K : PySem.W.Frag} {mg : Str → Option Value} {base : Heap}
seal L2.PSs L2.PS L2.PE L2.PA L2.PT L2.PG L2.PF L2.PI
def spReach : Sp := fun vs H Q _ => ∃ (a l c : Addr) (n b : Nat) (W : World2) (here kept : List Bool), vs = [.ref a, .ref l, .ref c] ∧ DAt H (.ref a) (wdat W) ∧ Valid n b W ∧ n ≤ 1000 ∧ b ≤ 1000 ∧
  H l = some (.lst (here.map V.bl)) ∧ H c = some (.lst (kept.map V.bl)) ∧ here.length = n ∧ kept.length = n ∧
  ∀ (q : Addr) (L : List Lb) (us : List V) (H' : Hp), Grow lbdat H H' q L us → L.length = n → SuAll W n (allT n) (goalsOf W n here kept) L → Q (.ref q) H'
theorem ok_reaching {f g h e : Addr} {fd gd hd ed : FuncData} (F : Fun K "reaching" "reaching" sd_reaching f fd) (B : Blt mg) (G_door_to : FnOk P w K mg base CX0 2 g gd ["world", "place", "wanted"] spDoorTo) (M_door_to : MG K mg "door_to" ["world", "place", "wanted"] g gd)
    (G_everywhere : FnOk P w K mg base CX0 1 h hd ["world"] spEvery) (M_everywhere : MG K mg "everywhere" ["world"] h hd) (G_some_until : FnOk P w K mg base CX0 5 e ed ["world", "left", "right"] (spUntilG true)) (M_some_until : MG K mg "some_until" ["world", "left", "right"] e ed) :
    FnOk P w K mg base CX0 6 f fd ["world", "here", "kept"] spReach := by
  refine F.ok sc_reaching (fun vs H Q E h => ?_) (fun cdv A outer s H vs Q E hr h => ?_)
  · obtain ⟨a, l, c, n, b, W, here, kept, rfl, _⟩ := h
    rfl
  obtain ⟨a, l, c, n, b, W, here, kept, rfl, ha, hW, hn, hb, hl, hc, ll, lc, q⟩ := h
  obtain ⟨a', ws, e, hA, hw⟩ := DAt.lst_inv ha
  cases e
  have lw := hw.length
  rw [List.length_map, hW.len] at lw
  refine ⟨_, 
    (pss_cons (ps_comp (i := 3) sc_reaching.nd rfl rfl rfl cs_reaching_0 rfl rfl (pi_range1 rfl B.range (pa_cons (pe_callB call_len_seq rfl B.len PySem.boot_len (pa_cons (pv 0) pa_nil)) pa_nil)) (fun _ _ _ _ _ => pg_name (i := 0) cs_reaching_0.nd rfl (Or.inl rfl)) (fun _ _ _ _ _ => pf_nil) (fun _ _ _ _ _ => (pe_and (pe_ix cix_list (pv 1) (pv 0) (fun _ _ => rfl)) (pe_one (pe_cmp (pc_notN (pe_call G_door_to (hr.mono (by decide)) rfl M_door_to.m M_door_to.k M_door_to.b .nil pass0 (pa_cons (pv 3) (pa_cons (pv 0) (pa_cons (pv 2) pa_nil))))))))))
    (pss_one (ps_ret (pe_call G_some_until (hr.mono (by decide)) rfl M_some_until.m M_some_until.k M_some_until.b .nil pass0 (pa_cons (pv 0) (pa_cons (pe_call G_everywhere (hr.mono (by decide)) rfl M_everywhere.m M_everywhere.k M_everywhere.b .nil pass0 (pa_cons (pv 0) pa_nil)) (pa_cons (pv 3) pa_nil))))))), ?_⟩
  refine ⟨_, rfl, a, _, rfl, .inl (SqL.of hA), _, rfl, by omega, by omega, fun D hD => ?_⟩
  refine comp_range (lo := 0) (n := ws.length) (fun i ys τ H' => ys = ((List.range i).map (goalB W here kept)).map V.bl ∧ H' D = some (.lst ys) ∧ Same H H' ∧ ∃ v, τ = [v, some (.ref l), some (.ref c), some (.ref a)]) ⟨rfl, upd_same, same_new hD _, none, rfl⟩ ?_ ?_
  · rintro i ys τ H1 hi ⟨rfl, hD1, sm, v, rfl⟩
    rw [lw] at hi
    have ia : atI (here.map V.bl) (0 + (i : Int)) = some (V.bl (here.getD i false)) := by rw [Int.zero_add]; exact row_at (H := H) (a := a) (by omega)
    have lz : (((List.range i).map (goalB W here kept)).map V.bl).length = i := by rw [List.length_map, List.length_map, List.length_range]
    have more : ∀ x : Bool, x = goalB W here kept i → ((List.range i).map (goalB W here kept)).map V.bl ++ [V.bl x] = ((List.range (i + 1)).map (goalB W here kept)).map V.bl := fun x e => by
      rw [List.range_succ, List.map_append, List.map_append, e]
      rfl
    refine ⟨_, rfl, _, rfl, l, _, _, _, rfl, rfl, SqL.of (sm _ _ hl), ia, _, rfl, ?_⟩
    cases hh : here.getD i false with
    | false => exact iteF ⟨hD1, line_lt (by omega), more _ (by unfold goalB; rw [hh]; rfl), upd_same, same_upd sm hD _, _, rfl⟩
    | true =>
      refine iteT ⟨_, rfl, _, rfl, _, rfl, a, c, i, n, b, W, kept, by rw [Int.zero_add]; rfl, ha.mono sm, hW, hi, sm _ _ hc, lc, hD1, line_lt (by omega), more _ ?_, upd_same, same_upd sm hD _, _, rfl⟩
      unfold goalB
      rw [hh]
      cases doorTo (dr W i) kept <;> rfl
  · rintro ys τ H1 ⟨rfl, hD1, sm, v, rfl⟩
    rw [lw] at hD1
    refine ⟨_, rfl, _, rfl, a, W, rfl, ha.mono sm, by rw [hW.len]; exact hn, fun c1 H2 s2 f2 h2 => ?_⟩
    rw [hW.len] at h2
    have S2 := sm.trans s2
    refine ⟨_, rfl, a, c1, D, n, b, W, allT n, goalsOf W n here kept, rfl, ha.mono S2, hW, hn, hb, h2, s2 _ _ hD1, by unfold allT; rw [List.length_replicate], by unfold goalsOf; rw [List.length_map, List.length_range], fun q' L us H' gr len ok su => ?_⟩
    have g3 : Grow lbdat H H' q' L us := by
      obtain ⟨⟨G, x1, x2, x3, x4⟩, x5⟩ := gr
      exact ⟨⟨G, S2.trans x1, x2, x3, x4⟩, x5⟩
    exact q q' L us H' g3 len ⟨ok, fun k hk => su2_su (su k hk)⟩
end
end Ws

namespace Ws
open PySem L2
section
variable {P : Program} {w : World} {K : PySem.W.Frag} {mg : Str → Option Value} {base : Heap}
seal L2.PSs L2.PS L2.PE L2.PA L2.PT L2.PG L2.PF L2.PI
theorem ov_inj {o o' : Option Int} (h : ov o = ov o') : o = o' := by
  cases o with
  | none =>
    cases o' with
    | none => rfl
    | some x => cases h
  | some x =>
    cases o' with
    | none => cases h
    | some y => exact congrArg some (V.int.inj h)
theorem ov_none {o : Option Int} : decide (ov o = V.non) = o.isNone := by cases o <;> rfl
theorem kept_comp {K : PySem.W.Frag} {H : Hp} {a D : Addr} {N : List (Option Int)} (h : H a = some (.lst (N.map ov))) (few : N.length ≤ 1000) {Q : VK} (hD : H D = none) (hq : ∀ H1, Same H H1 → H1 D = some (.lst ((keptOf N).map V.bl)) → Q (.ref D) H1) :
    CompRd D (Itl K a) (gName 0) (fun _ H Q => Q true H) (tIsN (tVar 0)) Q [none] (upd H D (.lst [])) := by
  refine comp_over (xs := N.map ov) (fun i ys τ H' => Same H H' ∧ H' D = some (.lst ys) ∧ ys = ((keptOf N).take i).map V.bl ∧ ∃ v, τ = [v]) ⟨same_new hD _, upd_same, rfl, none, rfl⟩ (fun i ys τ H' _ z => SqL.of (z.1 _ _ h)) ?_ ?_
  · rintro i y ys τ H4 hy ⟨s4, hD3, rfl, v, rfl⟩
    obtain ⟨x, hx, rfl⟩ : ∃ x, N[i]? = some x ∧ ov x = y := by
      rw [List.getElem?_map] at hy
      cases e : N[i]? with
      | none => rw [e] at hy; cases hy
      | some x => rw [e] at hy; exact ⟨x, rfl, Option.some.inj hy⟩
    refine ⟨_, rfl, hD3, line_lt ?_, same_upd s4 hD _, upd_same, ?_, _, rfl⟩
    · unfold keptOf
      rw [List.length_map, List.length_take, List.length_map]
      omega
    · have e : (keptOf N)[i]? = some x.isNone := by unfold keptOf; rw [List.getElem?_map, hx]; rfl
      rw [List.take_add_one, e, List.map_append, ov_none]
      rfl
  · rintro ys τ H4 ⟨s4, hD3, rfl, v, rfl⟩
    refine hq H4 s4 ?_
    rw [hD3, List.length_map, List.take_of_length_le (by unfold keptOf; rw [List.length_map]; exact Nat.le_refl _)]
def spMost : Sp := fun vs H Q _ => ∃ (a l : Addr) (n b : Nat) (W : World2) (here : List Bool), vs = [.ref a, .ref l] ∧ DAt H (.ref a) (wdat W) ∧ Valid n b W ∧ n ≤ 1000 ∧ b ≤ 1000 ∧
  H l = some (.lst (here.map V.bl)) ∧ here.length = n ∧
  ∀ (p : Addr) (N : List (Option Int)) (m : Int) (R : List Lb) (H' : Hp), Same H H' → H p = none → H' p = some (.lst (N.map ov)) → FallInv W n here m N → SuAll W n (allT n) (goalsOf W n here (keptOf N)) R → (∀ k, k < n → N.getD k none = none → (R.getD k default).1 = true) → Q (.ref p) H'
theorem ok_most_times {f g h : Addr} {fd gd hd : FuncData} (F : Fun K "most_times" "most_times" sd_most_times f fd) (B : Blt mg) (G_p_truths_of : FnOk P w K mg base CX0 1 g gd ["labels"] spTruths) (M_p_truths_of : MG K mg "truths_of" ["labels"] g gd)
    (G_reaching : FnOk P w K mg base CX0 6 h hd ["world", "here", "kept"] spReach) (M_reaching : MG K mg "reaching" ["world", "here", "kept"] h hd) : FnOk P w K mg base CX0 7 f fd ["world", "here"] spMost := by
  refine F.ok sc_most_times (fun vs H Q E h => ?_) (fun cdv A outer s H vs Q E hr h => ?_)
  · obtain ⟨a, l, n, b, W, here, rfl, _⟩ := h
    rfl
  obtain ⟨a, l, n, b, W, here, rfl, ha, hW, hn, hb, hl, ll, q⟩ := h
  obtain ⟨a', ws, e, hA, hw⟩ := DAt.lst_inv ha
  cases e
  have lw := hw.length
  rw [List.length_map, hW.len] at lw
  refine ⟨_, 
    (pss_cons (ps_comp (i := 2) sc_most_times.nd rfl rfl rfl cs_most_times_0 rfl rfl (pi_list (pv 0)) (fun _ _ _ _ _ => pg_name (i := 0) cs_most_times_0.nd rfl (Or.inl rfl)) (fun _ _ _ _ _ => pf_nil) (fun _ _ _ _ _ => pe_non))
    (pss_cons (ps_set (i := 3) sc_most_times.nd rfl (Or.inl rfl) pe_int)
    (pss_cons (ps_set (i := 4) sc_most_times.nd rfl (Or.inl rfl) pe_bl)
    (pss_cons (ps_while PassesOwn.never (pt_val (pv 4))
    (pss_cons (ps_set (i := 4) sc_most_times.nd rfl (Or.inl rfl) pe_bl)
    (pss_cons (ps_comp (i := 5) sc_most_times.nd rfl rfl rfl cs_most_times_1 rfl rfl (pi_list (pv 2)) (fun _ _ _ _ _ => pg_name (i := 0) cs_most_times_1.nd rfl (Or.inl rfl)) (fun _ _ _ _ _ => pf_nil) (fun _ _ _ _ _ => (pe_cmp (pc_isN (pv 0)))))
    (pss_cons (ps_set (i := 6) sc_most_times.nd rfl (Or.inl rfl) (pe_call G_p_truths_of (hr.mono (by decide)) rfl M_p_truths_of.m M_p_truths_of.k M_p_truths_of.b .nil pass0 (pa_cons (pe_call G_reaching (hr.mono (by decide)) rfl M_reaching.m M_reaching.k M_reaching.b .nil pass0 (pa_cons (pv 0) (pa_cons (pv 1) (pa_cons (pv 5) pa_nil)))) pa_nil)))
    (pss_cons (ps_for PassesOwn.never rfl (pi_range1 rfl B.range (pa_cons (pe_callB call_len_seq rfl B.len PySem.boot_len (pa_cons (pv 0) pa_nil)) pa_nil)) (pg_name (i := 7) sc_most_times.nd rfl (Or.inl rfl))
    (pss_one (ps_if (PW.pt (pw_and (pt_val (pe_ix ix_list (pv 5) (pv 7) (fun _ _ => rfl))) (pw_and1 (pt_not (pt_val (pe_ix ix_list (pv 6) (pv 7) (fun _ _ => rfl)))))))
    (pss_cons (ps_asg (pv 3) (pg_sub (pv 2) (pv 7) set_list))
    (pss_one (ps_set (i := 4) sc_most_times.nd rfl (Or.inl rfl) pe_bl)))
    pss_nil)))
    (pss_one (ps_set (i := 3) sc_most_times.nd rfl (Or.inl rfl) (pe_op op_add (pv 3) pe_int))))))))
    (pss_one (ps_ret (pv 2))))))), ?_⟩
  refine ⟨_, rfl, a, rfl, ⟨_, SqL.of hA⟩, fun p hp => ?_⟩
  refine comp_over (xs := ws) (fun i ys τ H' => i ≤ 1000 ∧ ys = (List.replicate i none).map ov ∧ H' p = some (.lst ys) ∧ Same H H' ∧ ∃ v, τ = [v]) ⟨Nat.zero_le _, rfl, upd_same, same_new hp _, none, rfl⟩ (fun i ys τ H' _ h => SqL.of (h.2.2.2.1 _ _ hA)) ?_ ?_
  · rintro i y ys τ H1 hy ⟨hi, rfl, hD1, sm, v, rfl⟩
    have hi' := (List.getElem?_eq_some_iff.mp hy).1
    refine ⟨hD1, line_lt ?_, by omega, ?_, upd_same, same_upd sm hp _, _, rfl⟩
    · rw [List.length_map, List.length_replicate]
      omega
    · rw [List.replicate_succ', List.map_append]
      rfl
  rintro ys τ H1 ⟨_, rfl, hp1, s1, v, rfl⟩
  rw [lw] at hp1
  have none_ : ∀ k, (List.replicate n (none : Option Int)).getD k none = none := fun k => by
    rw [List.getD_eq_getElem?_getD, List.getElem?_replicate]
    split <;> rfl
  have i0 : FallInv W n here 0 (List.replicate n none) := ⟨List.length_replicate, Int.le_refl _, (fun k _ x e => by rw [none_] at e; cases e), fun k _ x e => by rw [none_] at e; cases e⟩
  refine ⟨fun c σ' H' => ∃ (m : Int) (N : List (Option Int)) (fl : Bool) (o5 o6 o7 : Option V), σ' = [some (.ref a), some (.ref l), some (.ref p), some (.int m), some (.bl fl), o5, o6, o7] ∧ Same H H' ∧ H' p = some (.lst (N.map ov)) ∧ FallInv W n here m N ∧
      (fl = false → ∃ R, SuAll W n (allT n) (goalsOf W n here (keptOf N)) R ∧ ∀ k, k < n → N.getD k none = none → (R.getD k default).1 = true) ∧ c = (if fl then 1 else 0) + cn n N,
    ⟨_, 0, _, true, none, none, none, rfl, s1, hp1, i0, (fun z => nomatch z), rfl⟩, ?_⟩
  clear i0 none_ hp1 s1
  rintro c σ' H2 ⟨m, N, fl, o5, o6, o7, rfl, s2, hp2, fi, dn, rfl⟩
  refine ⟨_, rfl, _, rfl, ?_⟩
  cases fl with
  | false =>
    obtain ⟨R, r1, r2⟩ := dn rfl
    exact iteF ⟨_, rfl, q p N m R H2 s2 hp hp2 fi r1 r2⟩
  | true =>
    refine iteT ⟨_, fun _ _ h => h, ?_⟩
    have lN := fi.len
    refine ⟨_, rfl, p, rfl, ⟨_, SqL.of hp2⟩, fun kp hkp => kept_comp hp2 (by omega) hkp fun H3 s3 hk3 => ?_⟩
    have S3 := s2.trans s3
    have np : kp ≠ p := fun z => by rw [z, hp2] at hkp; cases hkp
    have lk : (keptOf N).length = n := by unfold keptOf; rw [List.length_map, lN]
    refine ⟨_, rfl, _, rfl, _, rfl, a, l, kp, n, b, W, here, keptOf N, rfl, ha.mono S3, hW, hn, hb, S3 _ _ hl, hk3, ll, lk, fun rq R us H4 g4 lR sR => ?_⟩
    have S4 := S3.trans g4.same
    refine ⟨rq, R, rfl, g4.done, by omega, fun rd H5 s5 hf5 h5 => ?_⟩
    have S5 := S4.trans s5
    have hk5 := s5 _ _ (g4.same _ _ hk3)
    have hp5 := s5 _ _ (g4.same _ _ (s3 _ _ hp2))
    have nr : rd ≠ p := fun z => by rw [z, g4.same _ _ (s3 _ _ hp2)] at hf5; cases hf5
    refine ⟨_, rfl, a, _, rfl, .inl (SqL.of (S5 _ _ hA)), _, rfl, by omega, by omega, for_range (lo := 0) (n := ws.length)
      (fun i σ' H' => ∃ (N' : List (Option Int)) (o7 : Option V), σ' = [some (.ref a), some (.ref l), some (.ref p), some (.int m), some (.bl (fellB N R i)), some (.ref kp), some (.ref rd), o7] ∧ Same H H' ∧ H' p = some (.lst (N'.map ov)) ∧
        H' kp = some (.lst ((keptOf N).map V.bl)) ∧ H' rd = some (.lst ((trs R).map V.bl)) ∧ N'.length = n ∧ ∀ k, k < n → N'.getD k none = if k < i then newN N R m k else N.getD k none)
      ⟨N, _, rfl, S5, hp5, hk5, h5, lN, fun k _ => by rw [if_neg (Nat.not_lt_zero k)]⟩ ?_ ?_⟩
    · rintro i σ' H6 hi ⟨N', o7, rfl, S6, hp6, hk6, hr6, l6, h6⟩
      rw [lw] at hi
      have ia : atI ((keptOf N).map V.bl) (0 + (i : Int)) = some (V.bl ((keptOf N).getD i false)) := by rw [Int.zero_add]; exact row_at (H := H) (a := a) (by omega)
      have ib : atI ((trs R).map V.bl) (0 + (i : Int)) = some (V.bl (R.getD i default).1) := by
        rw [Int.zero_add, ← trs_at]
        exact row_at (H := H) (a := a) (by unfold trs; rw [List.length_map, lR]; exact hi)
      have skip : ((keptOf N).getD i false && !(R.getD i default).1) = false → ∃ (N'' : List (Option Int)) (o7' : Option V), [some (V.ref a), some (.ref l), some (.ref p), some (.int m), some (.bl (fellB N R i)), some (.ref kp), some (.ref rd), some (.int (0 + (i : Int)))] = [some (.ref a), some (.ref l), some (.ref p), some (.int m), some (.bl (fellB N R (i + 1))), some (.ref kp), some (.ref rd), o7'] ∧ Same H H6 ∧ H6 p = some (.lst (N''.map ov)) ∧
          H6 kp = some (.lst ((keptOf N).map V.bl)) ∧ H6 rd = some (.lst ((trs R).map V.bl)) ∧ N''.length = n ∧ ∀ k, k < n → N''.getD k none = if k < i + 1 then newN N R m k else N.getD k none := fun hc => by
        refine ⟨N', _, by rw [fell_succ, hc, Bool.or_false], S6, hp6, hk6, hr6, l6, fun k hk => ?_⟩
        rw [step_if (x := newN N R m) (y := fun k => N.getD k none), h6 k hk]
        by_cases ek : k = i
        · subst ek
          rw [if_neg (Nat.lt_irrefl _), if_pos rfl]
          unfold newN
          rw [hc, if_neg Bool.false_ne_true]
        · rw [if_neg ek]
      refine ⟨_, rfl, _, rfl, kp, _, _, _, rfl, rfl, SqL.of hk6, ia, _, rfl, ?_⟩
      cases hke : (keptOf N).getD i false with
      | false => exact iteF (skip (by rw [hke]; rfl))
      | true =>
        refine iteT ⟨_, rfl, _, rfl, rd, _, _, _, rfl, rfl, SqL.of hr6, ib, _, rfl, ?_⟩
        cases hre : (R.getD i default).1 with
        | true => exact iteF (skip (by rw [hke, hre]; rfl))
        | false =>
          have en : newN N R m i = some m := by unfold newN; rw [hke, hre]; rfl
          refine iteT ⟨_, rfl, _, rfl, _, rfl, p, _, _, i, rfl, rfl, hp6, by rw [Int.zero_add, List.length_map]; exact ixN_nat (by omega), ?_⟩
          refine ⟨N'.set i (some m), _, by rw [fell_succ, hke, hre]; simp; rfl, same_upd S6 hp _, ?_, by rw [upd_ne np]; exact hk6, by rw [upd_ne nr]; exact hr6, by rw [List.length_set, l6], fun k hk => ?_⟩
          · rw [upd_same, List.map_set]
            rfl
          · rw [step_if (x := newN N R m) (y := fun k => N.getD k none), set_at (by omega), h6 k hk, en]
    · rintro σ' H6 ⟨N', o7, rfl, S6, hp6, hk6, hr6, l6, h6⟩
      rw [lw] at h6 ⊢
      have h7 : ∀ k, k < n → N'.getD k none = newN N R m k := fun k hk => by rw [h6 k hk, if_pos hk]
      have fi' := fi.step hW l6 (fun k hk => goals_at hk) sR h7
      refine ⟨_, rfl, _, _, rfl, rfl, ?_⟩
      refine ⟨_, ?_, m + 1, N', _, _, _, _, rfl, S6, hp6, fi', fun hg => ?_, rfl⟩
      · have le := cn_le h7
        cases hg : fellB N R n with
        | false =>
          show 0 + cn n N' < 1 + cn n N
          omega
        | true =>
          have lt := cn_lt lN h7 hg
          show 1 + cn n N' < 1 + cn n N
          omega
      · obtain ⟨rfl, r2⟩ := not_fell lN l6 h7 hg
        exact ⟨R, sR, r2⟩
end
end Ws

namespace Ws
open PySem L2
section
variable {P : Program} {w : World} {K : PySem.W.Frag} {mg : Str → Option Value} {base : Heap}
seal L2.PSs L2.PS L2.PE L2.PA L2.PT L2.PG L2.PF L2.PI
theorem Grow.back {α : Type} {φ : α → Dat} {H0 H1 H : Hp} {q : Addr} {ts : List α} {vs : List V} (sm : Same H0 H1) (g : Grow φ H1 H q ts vs) : Grow φ H0 H q ts vs := by
  obtain ⟨⟨G, x1, x2, x3, x4⟩, x5⟩ := g
  exact ⟨⟨G, sm.trans x1, x2, x3, x4⟩, x5⟩
def spAgainG (Rf : List Bool → List Lb → Nat → List Int → Bool) : Sp := fun vs H Q _ => ∃ (a l : Addr) (n b : Nat) (W : World2) (here : List Bool), vs = [.ref a, .ref l] ∧ DAt H (.ref a) (wdat W) ∧ Valid n b W ∧ n ≤ 1000 ∧ b ≤ 1000 ∧
  H l = some (.lst (here.map V.bl)) ∧ here.length = n ∧
  ∀ (q : Addr) (L : List Lb) (us : List V) (H' : Hp), Grow lbdat H H' q L us → L.length = n → (∀ k, k < n → lbOk (L.getD k default) (dr W k) = true) → (∀ k, k < n → Rf here L k (dr W k) = true) → Q (.ref q) H'
theorem again_of {Rf : List Bool → List Lb → Nat → List Int → Bool} {k : Nat} {f : Addr} {fd : FuncData} (G : FnOk P w K mg base CX0 k f fd ["world", "here"] (spAgainG Rf)) (hk : k ≤ 20) : FnOk P w K mg base CX0 20 f fd ["world", "here"] (spAgain Rf) :=
  (G.mono hk).imp fun vs H Q E h => by
    obtain ⟨a, b, n, W, here, rfl, hW, hv, n1, n2, hl, ll, q⟩ := h
    exact ⟨a, b, n, 200, W, here, rfl, hW, hv, by omega, by decide, hl, ll, fun q' L us H' gr len ok su => q (.ref q') L H' gr.same gr.done len ok su⟩
end
end Ws

namespace Ws
open PySem L2
section
variable {P : Program} {w : World} {K : PySem.W.Frag} {mg : Str → Option Value} {base : Heap}
seal L2.PSs L2.PS L2.PE L2.PA L2.PT L2.PG L2.PF L2.PI
theorem ok_some_again {f g h e : Addr} {fd gd hd ed : FuncData} (F : Fun K "some_again" "some_again" sd_some_again f fd) (B : Blt mg) (G_most_times : FnOk P w K mg base CX0 7 g gd ["world", "here"] spMost) (M_most_times : MG K mg "most_times" ["world", "here"] g gd)
    (G_reaching : FnOk P w K mg base CX0 6 h hd ["world", "here", "kept"] spReach) (M_reaching : MG K mg "reaching" ["world", "here", "kept"] h hd) (G_door_to : FnOk P w K mg base CX0 2 e ed ["world", "place", "wanted"] spDoorTo) (M_door_to : MG K mg "door_to" ["world", "place", "wanted"] e ed) :
    FnOk P w K mg base CX0 8 f fd ["world", "here"] (spAgainG saR) := by
  refine F.ok sc_some_again (fun vs H Q E h => ?_) (fun cdv A outer s H vs Q E hr h => ?_)
  · obtain ⟨a, l, n, b, W, here, rfl, _⟩ := h
    rfl
  obtain ⟨a, l, n, b, W, here, rfl, ha, hW, hn, hb, hl, ll, q⟩ := h
  obtain ⟨a', ws, e, hA, hw⟩ := DAt.lst_inv ha
  cases e
  have lw := hw.length
  rw [List.length_map, hW.len] at lw
  refine ⟨_, 
    (pss_cons (ps_set (i := 2) sc_some_again.nd rfl (Or.inl rfl) (pe_call G_most_times (hr.mono (by decide)) rfl M_most_times.m M_most_times.k M_most_times.b .nil pass0 (pa_cons (pv 0) (pa_cons (pv 1) pa_nil))))
    (pss_cons (ps_comp (i := 3) sc_some_again.nd rfl rfl rfl cs_some_again_0 rfl rfl (pi_list (pv 2)) (fun _ _ _ _ _ => pg_name (i := 0) cs_some_again_0.nd rfl (Or.inl rfl)) (fun _ _ _ _ _ => pf_nil) (fun _ _ _ _ _ => (pe_cmp (pc_isN (pv 0)))))
    (pss_cons (ps_set (i := 4) sc_some_again.nd rfl (Or.inl rfl) (pe_call G_reaching (hr.mono (by decide)) rfl M_reaching.m M_reaching.k M_reaching.b .nil pass0 (pa_cons (pv 0) (pa_cons (pv 1) (pa_cons (pv 3) pa_nil)))))
    (pss_cons (ps_for PassesOwn.never rfl (pi_range1 rfl B.range (pa_cons (pe_callB call_len_seq rfl B.len PySem.boot_len (pa_cons (pv 0) pa_nil)) pa_nil)) (pg_name (i := 5) sc_some_again.nd rfl (Or.inl rfl))
    (pss_one (ps_if (pt_not (pt_val (pe_ix ix_list (pv 3) (pv 5) (fun _ _ => rfl))))
    (pss_one (ps_asg (pe_tup (pa_cons pe_bl (pa_cons (pe_ix ix_list (pv 2) (pv 5) (fun _ _ => rfl)) (pa_cons pe_non pa_nil)))) (pg_sub (pv 4) (pv 5) set_list)))
    (pss_one (ps_if (pt_cmpR op_eq (pe_ix ix_tup (pe_ix ix_list (pv 4) (pv 5) (fun _ _ => rfl)) pe_int (fun _ _ => rfl)) pe_int (nomark _))
    (pss_one (ps_asg (pe_tup (pa_cons pe_bl (pa_cons pe_int (pa_cons (pe_call G_door_to (hr.mono (by decide)) rfl M_door_to.m M_door_to.k M_door_to.b .nil pass0 (pa_cons (pv 0) (pa_cons (pv 5) (pa_cons (pv 3) pa_nil)))) pa_nil)))) (pg_sub (pv 4) (pv 5) set_list)))
    pss_nil)))))
    (pss_one (ps_ret (pv 4))))))), ?_⟩
  refine ⟨_, rfl, _, rfl, a, l, n, b, W, here, rfl, ha, hW, hn, hb, hl, ll, fun np N m R H1 s1 f1 h1 fi sR rk => ?_⟩
  have lN := fi.len
  refine ⟨_, rfl, np, rfl, ⟨_, SqL.of h1⟩, fun kp hkp => kept_comp h1 (by omega) hkp fun H2 s2 hk2 => ?_⟩
  have S2 := s1.trans s2
  have hn2 := s2 _ _ h1
  have lk : (keptOf N).length = n := by unfold keptOf; rw [List.length_map, lN]
  refine ⟨_, rfl, _, rfl, _, rfl, a, l, kp, n, b, W, here, keptOf N, rfl, ha.mono S2, hW, hn, hb, S2 _ _ hl, hk2, ll, lk, fun p L us H3 g3' lL sL => ?_⟩
  have g3 := g3'.back S2
  have hk3 := g3'.same _ _ hk2
  have hn3 := g3'.same _ _ hn2
  have nk : kp ≠ p := fun z => by have := g3'.free; rw [← z, hk2] at this; cases this
  have nn : np ≠ p := fun z => by have := g3'.free; rw [← z, hn2] at this; cases this
  refine ⟨_, rfl, a, _, rfl, .inl (SqL.of (g3.same _ _ hA)), _, rfl, by omega, by omega, for_range (lo := 0) (n := ws.length)
    (fun i σ' H' => ∃ (L' : List Lb) (us' : List V) (o5 : Option V), σ' = [some (.ref a), some (.ref l), some (.ref np), some (.ref kp), some (.ref p), o5] ∧ Grow lbdat H H' p L' us' ∧ H' kp = some (.lst ((keptOf N).map V.bl)) ∧ H' np = some (.lst (N.map ov)) ∧
      L'.length = n ∧ ∀ k, k < n → L'.getD k default = if k < i then newA W N L k else L.getD k default)
    ⟨L, us, none, rfl, g3, hk3, hn3, lL, fun k _ => by rw [if_neg (Nat.not_lt_zero k)]⟩ ?_ ?_⟩
  · rintro i σ' H4 hi ⟨L', us', o5, rfl, g4, hk4, hn4, l4, h4⟩
    rw [lw] at hi
    have lu := g4.len
    have hLi : L'.getD i default = L.getD i default := by rw [h4 i hi, if_neg (Nat.lt_irrefl _)]
    have ia : atI ((keptOf N).map V.bl) (0 + (i : Int)) = some (V.bl ((keptOf N).getD i false)) := by rw [Int.zero_add]; exact row_at (H := H) (a := a) (by omega)
    have ib : atI (N.map ov) (0 + (i : Int)) = some (ov (N.getD i none)) := by
      rw [Int.zero_add, getD_eq (by omega)]
      exact atI_nat (map_nth (by omega))
    obtain ⟨t0, a1, a2⟩ := g4.lab (k := i) (by omega)
    rw [hLi] at a2
    -- a new label
    have put : ∀ (H5 : Hp) (t : Addr), Same H4 H5 → H4 t = none → H5 t = some (.tup [.bl (newA W N L i).1, ov (newA W N L i).2.1, ov (newA W N L i).2.2]) → ∃ (L'' : List Lb) (us'' : List V) (o5' : Option V), [some (V.ref a), some (.ref l), some (.ref np), some (.ref kp), some (.ref p), some (.int (0 + (i : Int)))] = [some (.ref a), some (.ref l), some (.ref np), some (.ref kp), some (.ref p), o5'] ∧ Grow lbdat H (upd H5 p (.lst (us'.set i (.ref t)))) p L'' us'' ∧
        upd H5 p (.lst (us'.set i (.ref t))) kp = some (.lst ((keptOf N).map V.bl)) ∧ upd H5 p (.lst (us'.set i (.ref t))) np = some (.lst (N.map ov)) ∧ L''.length = n ∧ ∀ k, k < n → L''.getD k default = if k < i + 1 then newA W N L k else L.getD k default := fun H5 t s5 ht et => by
      have nt := g4.fresh_ne ht
      have g5 := g4.keep s5
      refine ⟨L'.set i (newA W N L i), _, _, rfl, g5.put (v := .ref t) (t := newA W N L i) i (lbdat_mk (by rw [del_ne nt]; exact et)), by rw [upd_ne nk]; exact s5 _ _ hk4, by rw [upd_ne nn]; exact s5 _ _ hn4, by rw [List.length_set, l4], fun k hk => ?_⟩
      rw [step_if (x := newA W N L) (y := fun k => L.getD k default), set_at (by omega), h4 k hk]
    refine ⟨_, rfl, _, rfl, kp, _, _, _, rfl, rfl, SqL.of hk4, ia, _, rfl, ?_⟩
    rw [kept_at (by omega)]
    cases hN : N.getD i none with
    | some x =>
      rw [hN] at ib
      refine iteT ⟨_, rfl, _, rfl, np, _, _, _, rfl, rfl, SqL.of hn4, ib, line_le (by show 3 ≤ 16000000; decide), fun t ht => ?_⟩
      have en : newA W N L i = (false, some x, none) := by unfold newA; rw [hN]
      refine ⟨_, rfl, _, rfl, p, us', _, i, rfl, rfl, same_new ht _ _ _ g4.at_, by rw [Int.zero_add]; exact ixN_nat (by omega), put _ t (same_new ht _) ht (by rw [en]; exact upd_same)⟩
    | none =>
      refine iteF ⟨_, rfl, _, rfl, p, _, _, _, rfl, rfl, SqL.of g4.at_, by rw [Int.zero_add]; exact a1, t0, _, _, _, rfl, rfl, SqT.of a2, at1, scal_ov, _, rfl, ?_⟩
      rw [dec_ov]
      by_cases h0 : (L.getD i default).2.1 = some 0
      · rw [decide_eq_true h0]
        refine iteT ⟨_, rfl, _, rfl, _, rfl, a, kp, i, n, b, W, keptOf N, by rw [Int.zero_add]; rfl, ha.mono g4.same, hW, hi, hk4, lk, line_le (by show 3 ≤ 16000000; decide), fun t ht => ?_⟩
        have en : newA W N L i = (true, some 0, doorTo (dr W i) (keptOf N)) := by unfold newA; rw [hN]; exact if_pos h0
        refine ⟨_, rfl, _, rfl, p, us', _, i, rfl, rfl, same_new ht _ _ _ g4.at_, by rw [Int.zero_add]; exact ixN_nat (by omega), put _ t (same_new ht _) ht (by rw [en]; exact upd_same)⟩
      · rw [decide_eq_false h0]
        refine iteF ⟨L', us', _, rfl, g4, hk4, hn4, l4, fun k hk => ?_⟩
        rw [step_if (x := newA W N L) (y := fun k => L.getD k default), h4 k hk]
        by_cases ek : k = i
        · subst ek
          rw [if_neg (Nat.lt_irrefl _), if_pos rfl]
          unfold newA
          rw [hN]
          exact (if_neg h0).symm
        · rw [if_neg ek]
  · rintro σ' H4 ⟨L', us', o5, rfl, g4, hk4, hn4, l4, h4⟩
    rw [lw] at h4
    have h5 : ∀ k, k < n → L'.getD k default = newA W N L k := fun k hk => by rw [h4 k hk, if_pos hk]
    have d := sa_done fi hW (fun k hk => goals_at hk) sL (fun k hk hnk => su_unique hW sR sL k hk (rk k hk hnk)) h5
    exact ⟨_, rfl, q p L' us' H4 g4 l4 (fun k hk => (d k hk).1) fun k hk => (d k hk).2⟩
end
end Ws

namespace Ws
open PySem L2
section
variable {P : Program} {w : World} {K : PySem.W.Frag} {mg : Str → Option Value} {base : Heap}
seal L2.PSs L2.PS L2.PE L2.PA L2.PT L2.PG L2.PF L2.PI
def spDraw : Sp := fun vs H Q _ => ∃ x p m : Int, vs = [.int x, .int p, .int m] ∧ 0 < p ∧ 0 < m ∧ ∀ i : Int, 0 ≤ i → i < m → Q (.int i) H
theorem ok_draw {f : Addr} {fd : FuncData} (F : Fun K "_law_draw" "_law_draw" sd_draw f fd) : FnOk P w K mg base CX0 1 f fd ["_law_number", "_law_prime", "_law_many"] spDraw := by
  refine F.ok sc_draw (fun vs H Q E h => ?_) (fun cdv A outer s H vs Q E hr h => ?_)
  · obtain ⟨x, p, m, rfl, _⟩ := h
    rfl
  obtain ⟨x, p, m, rfl, hp, hm, k⟩ := h
  refine ⟨_, 
    (pss_one (ps_ret (pe_op op_mod (pe_op op_mod (pe_op op_mul (pv 0) pe_int) (pv 1)) (pv 2)))), ?_⟩
  refine ⟨_, rfl, _, _, rfl, rfl, .inr ⟨by decide, by decide⟩, _, rfl, _, _, rfl, rfl, hp, _, rfl, _, _, rfl, rfl, hm, ?_⟩
  exact k _ (Int.emod_nonneg _ (by omega)) (Int.emod_lt_of_pos _ hm)
end
end Ws

namespace Ws
open PySem L2
section
variable {P : Program} {w : World} {K : PySem.W.Frag} {mg : Str → Option Value} {base : Heap}
seal L2.PSs L2.PS L2.PE L2.PA L2.PT L2.PG L2.PF L2.PI
def spWhole : Sp := fun vs H Q _ => ∃ i : Int, vs = [.int i] ∧ Q (.bl true) H
theorem ok_whole {f : Addr} {fd : FuncData} (F : Fun K "_law_whole" "_law_whole" sd_whole f fd) (B : Blt mg) : FnOk P w K mg base CX0 1 f fd ["_law_found"] spWhole := by
  refine F.ok sc_whole (fun vs H Q E h => ?_) (fun cdv A outer s H vs Q E hr h => ?_)
  · obtain ⟨i, rfl, _⟩ := h
    rfl
  obtain ⟨i, rfl, q⟩ := h
  refine ⟨_, pss_one (ps_ret (pe_and (pe_callB call_is1 rfl B.isinst bIs (pa_cons (pv 0) (pa_cons (pe_bltn (v := .ty "int") rfl B.int bInt rfl) pa_nil)))
    (pe_one (pe_not (pe_callB call_is1 rfl B.isinst bIs (pa_cons (pv 0) (pa_cons (pe_bltn (v := .ty "bool") rfl B.bool bBool rfl) pa_nil))))))), ?_⟩
  refine ⟨_, rfl, _, _, _, _, rfl, .int i, o_ii, _, rfl, iteT ?_⟩
  exact ⟨_, rfl, _, _, _, _, rfl, .int i, o_ib, _, rfl, q⟩
end
end Ws

namespace Ws
open PySem L2
section
variable {P : Program} {w : World} {K : PySem.W.Frag} {mg : Str → Option Value} {base : Heap}
seal L2.PSs L2.PS L2.PE L2.PA L2.PT L2.PG L2.PF L2.PI
/-- a cell of the script: some whole number -/
def spAt (K : PySem.W.Frag) : Sp := fun vs H Q _ => ∃ (a : Addr) (ns : List Int) (k : Int), vs = [.ref a, .int k] ∧ SqL K H a (ns.map V.int) ∧ ns.length ≤ 1000000 ∧ ∀ (i : Int) (H' : Hp), Same H H' → Q (.int i) H'
theorem ok_at {f : Addr} {fd : FuncData} (F : Fun K "_law_at" "_law_at" sd_at f fd) (B : Blt mg) : FnOk P w K mg base CX0 1 f fd ["_law_script", "_law_k"] (spAt K) := by
  refine F.ok sc_at (fun vs H Q E h => ?_) (fun cdv A outer s H vs Q E hr h => ?_)
  · obtain ⟨a, ns, k, rfl, _⟩ := h
    rfl
  obtain ⟨a, ns, k, rfl, hS, hl, q⟩ := h
  have hu := Nat.lt_of_succ_lt (hu_of hr)
  refine ⟨_, 
    (pss_cons (ps_if (pt_cmpR (op_eqNilS hu) (pv 0) (pe_lst pa_nil) (nomark _))
    (pss_one (ps_ret pe_int))
    pss_nil)
    (pss_one (ps_ret (pe_op op_add (pe_ix ix_list (pv 0) (pe_op op_mod (pv 1) (pe_callB call_len_seq rfl B.len PySem.boot_len (pa_cons (pv 0) pa_nil))) (fun _ _ => rfl)) (pe_op op_mul pe_int (pe_op op_fdiv (pv 1) (pe_callB call_len_seq rfl B.len PySem.boot_len (pa_cons (pv 0) pa_nil)))))))), ?_⟩
  refine ⟨_, rfl, line0, fun b hb => ⟨a, b, _, rfl, rfl, (same_new hb _).seq hS, upd_same, _, rfl, ?_⟩⟩
  have s1 := same_new hb (.lst [])
  have hS1 := s1.seq hS
  generalize upd H b (.lst []) = H1 at s1 hS1
  refine ite2 (fun _ => q 0 _ s1) (fun c => ?_)
  have lm : (ns.map V.int).length = ns.length := List.length_map _
  have hpos : 0 < (ns.map V.int).length := by
    cases ns with
    | nil => exact absurd rfl c
    | cons x r => exact Nat.succ_pos _
  obtain ⟨v, e1, e2⟩ := idx_mod (xs := ns.map V.int) (z := k) rfl hpos
  obtain ⟨z, rfl, _⟩ := int_mem e2
  have hp2 : (0 : Int) < (((ns.map V.int).length : Nat) : Int) := by omega
  refine ⟨_, rfl, _, rfl, _, rfl, a, _, rfl, .inl hS1, _, _, rfl, rfl, hp2, a, _, _, _, rfl, rfl, hS1, e1, _, rfl, _, rfl, a, _, rfl, .inl hS1, _, _, rfl, rfl, ⟨hp2, by omega⟩, _, _, rfl, rfl, .inl ⟨by decide, by decide⟩, _, _, rfl, rfl, ?_⟩
  exact q _ _ s1
end
end Ws

namespace Ws
open PySem L2
section
variable {P : Program} {w : World} {K : PySem.W.Frag} {mg : Str → Option Value} {base : Heap}
seal L2.PSs L2.PS L2.PE L2.PA L2.PT L2.PG L2.PF L2.PI
def spSame : Sp := fun vs H Q _ => ∃ (x y : V) (d : Dat), vs = [x, y] ∧ DAt H x d ∧ DAt H y d ∧ d.wt ≤ 10000000 ∧ ∀ H', Same H H' → Q (.bl true) H'
theorem ok_same {f g : Addr} {fd gd : FuncData} (F : Fun K "_law_same" "_law_same" sd_same f fd) (B : Blt mg) (G_whole : FnOk P w K mg base CX0 1 g gd ["_law_found"] spWhole) (M_whole : MG K mg "_law_whole" ["_law_found"] g gd) :
    FnOk P w K mg base CX0 2 f fd ["_law_found", "_law_due"] spSame := by
  refine F.ok sc_same (fun vs H Q E h => ?_) (fun cdv A outer s H vs Q E hr h => ?_)
  · obtain ⟨x, y, d, rfl, _⟩ := h
    rfl
  obtain ⟨x, y, d, rfl, hx, hy, hbig, k⟩ := h
  have hu := Nat.lt_of_succ_lt (hu_of hr)
  refine ⟨_, 
    (pss_cons (ps_set (i := 2) sc_same.nd rfl (Or.inl rfl) (pe_lst (pa_cons (pv 0) pa_nil)))
    (pss_cons (ps_set (i := 3) sc_same.nd rfl (Or.inl rfl) (pe_lst (pa_cons (pv 1) pa_nil)))
    (pss_cons (ps_while PassesOwn.never (pt_cmpR (op_neNil hu) (pv 3) (pe_lst pa_nil) (nomark _))
    (pss_cons (ps_set (i := 4) sc_same.nd rfl (Or.inl rfl) (pe_bm0 PySem.F.plainAttrs_list PySem.F.slot_list_pop PySem.F.type_list_pop mt_pop (pv 2)))
    (pss_cons (ps_set (i := 5) sc_same.nd rfl (Or.inl rfl) (pe_bm0 PySem.F.plainAttrs_list PySem.F.slot_list_pop PySem.F.type_list_pop mt_pop (pv 3)))
    (pss_one (ps_if (pt_val (pe_callB call_is2 rfl B.isinst bIs (pa_cons (pv 5) (pa_cons (pe_tup (pa_cons (pe_bltn (v := .ty "list") rfl B.list bList rfl) (pa_cons (pe_bltn (v := .ty "tuple") rfl B.tuple bTuple rfl) pa_nil))) pa_nil))))
    (pss_cons (ps_if (pt_cmpR op_ne (pe_callB call_is1 rfl B.isinst bIs (pa_cons (pv 4) (pa_cons (pe_bltn (v := .ty "list") rfl B.list bList rfl) pa_nil))) (pe_callB call_is1 rfl B.isinst bIs (pa_cons (pv 5) (pa_cons (pe_bltn (v := .ty "list") rfl B.list bList rfl) pa_nil))) (nomark _))
    (pss_one (ps_ret pe_bl))
    pss_nil)
    (pss_cons (ps_if (PW.pt (pw_or (pt_cmpR op_ne (pe_callB call_is1 rfl B.isinst bIs (pa_cons (pv 4) (pa_cons (pe_bltn (v := .ty "tuple") rfl B.tuple bTuple rfl) pa_nil))) (pe_callB call_is1 rfl B.isinst bIs (pa_cons (pv 5) (pa_cons (pe_bltn (v := .ty "tuple") rfl B.tuple bTuple rfl) pa_nil))) (nomark _)) (pw_or1 (pt_cmpR op_ne (pe_callB call_len_seq rfl B.len PySem.boot_len (pa_cons (pv 4) pa_nil)) (pe_callB call_len_seq rfl B.len PySem.boot_len (pa_cons (pv 5) pa_nil)) (nomark _)))))
    (pss_one (ps_ret pe_bl))
    pss_nil)
    (pss_cons (ps_expr (pe_bm PySem.F.plainAttrs_list PySem.F.slot_list_extend PySem.F.type_list_extend (MtR.or mt_extend mt_extendT) (pv 2) (pa_cons (pv 4) pa_nil)))
    (pss_one (ps_expr (pe_bm PySem.F.plainAttrs_list PySem.F.slot_list_extend PySem.F.type_list_extend (MtR.or mt_extend mt_extendT) (pv 3) (pa_cons (pv 5) pa_nil)))))))
    (pss_one (ps_if (pt_cmp (pc_isN (pv 5)))
    (pss_one (ps_if (pt_cmp (pc_notN (pv 4)))
    (pss_one (ps_ret pe_bl))
    pss_nil))
    (pss_one (ps_if (pt_val (pe_callB call_is1 rfl B.isinst bIs (pa_cons (pv 5) (pa_cons (pe_bltn (v := .ty "bool") rfl B.bool bBool rfl) pa_nil))))
    (pss_one (ps_if (PW.pt (pw_or (pt_not (pt_val (pe_callB call_is1 rfl B.isinst bIs (pa_cons (pv 4) (pa_cons (pe_bltn (v := .ty "bool") rfl B.bool bBool rfl) pa_nil))))) (pw_or1 (pt_cmpR op_ne (pv 4) (pv 5) (nomark _)))))
    (pss_one (ps_ret pe_bl))
    pss_nil))
    (pss_one (ps_if (pt_val (pe_callB call_is1 rfl B.isinst bIs (pa_cons (pv 5) (pa_cons (pe_bltn (v := .ty "str") rfl B.str bStr rfl) pa_nil))))
    (pss_one (ps_if (PW.pt (pw_or (pt_not (pt_val (pe_callB call_is1 rfl B.isinst bIs (pa_cons (pv 4) (pa_cons (pe_bltn (v := .ty "str") rfl B.str bStr rfl) pa_nil))))) (pw_or1 (pt_cmpR op_ne (pv 4) (pv 5) (nomark _)))))
    (pss_one (ps_ret pe_bl))
    pss_nil))
    (pss_one (ps_if (PW.pt (pw_or (pt_not (pt_val (pe_call G_whole (hr.mono (by decide)) rfl M_whole.m M_whole.k M_whole.b .nil pass0 (pa_cons (pv 4) pa_nil)))) (pw_or1 (pt_cmpR op_ne (pv 4) (pv 5) (nomark _)))))
    (pss_one (ps_ret pe_bl))
    pss_nil)))))))))))))
    (pss_one (ps_ret pe_bl))))), ?_⟩
  refine ⟨_, rfl, line_le (by show 1 ≤ 16000000; decide), fun l hl => ?_⟩
  refine ⟨_, rfl, line_le (by show 1 ≤ 16000000; decide), fun r hr' => ?_⟩
  have s1 : Same H (upd H l (.lst [x])) := same_new hl _
  have hr0 : H r = none := s1.free hr'
  have nlr : l ≠ r := ne_of_none upd_same hr'
  refine ⟨fun m σ' H' => ∃ (ds : List Dat) (ls rs : List V) (o1 o2 : Option V), m = wts ds ∧ σ' = [some x, some y, some (.ref l), some (.ref r), o1, o2] ∧ Same H H' ∧ H' l = some (.lst ls) ∧ H' r = some (.lst rs) ∧ DsAt H ls ds ∧ DsAt H rs ds ∧ wts ds ≤ 10000000,
    ⟨_, [d], [x], [y], none, none, rfl, rfl, s1.trans (same_new hr' _), by rw [upd_ne nlr, upd_same], upd_same, .cons hx .nil, .cons hy .nil, hbig⟩, ?_⟩
  rintro m σ' H' ⟨ds, ls, rs, o1, o2, rfl, rfl, sm, hl', hr1, hL, hR, hb⟩
  refine ⟨_, rfl, line_le (by show 0 ≤ 16000000; decide), fun q hq => ?_⟩
  have sq : Same H' (upd H' q (.lst [])) := same_new hq _
  refine ⟨r, q, rs, rfl, rfl, sq _ _ hr1, upd_same, _, rfl, ?_⟩
  have sm1 := sm.trans sq
  have hl1 := sq _ _ hl'
  have hr2 := sq _ _ hr1
  generalize upd H' q (.lst []) = H1 at sm1 hl1 hr2
  rcases List.eq_nil_or_concat ds with rfl | ⟨ds', d', rfl⟩
  · cases hR
    exact iteF (k H1 sm1)
  rw [List.concat_eq_append] at *
  obtain ⟨ls', v1, rfl, hL', h1⟩ := DsAt.last hL
  obtain ⟨rs', v2, rfl, hR', h2⟩ := DsAt.last hR
  refine ite2 (fun _ => ?_) (fun c => absurd (by simp) c)
  refine ⟨_, fun _ _ h => h, ?_⟩
  refine ⟨_, rfl, .inl ⟨rfl, _, SqL.of hl1⟩, l, _, v1, rfl, rfl, hl1, last_at _ _, ?_⟩
  have hr3 : upd H1 l (.lst (ls' ++ [v1]).dropLast) r = some (.lst (rs' ++ [v2])) := by rw [upd_ne nlr.symm]; exact hr2
  refine ⟨_, rfl, .inl ⟨rfl, _, SqL.of hr3⟩, r, _, v2, rfl, rfl, hr3, last_at _ _, ?_⟩
  have s2 : Same H (upd (upd H1 l (.lst (ls' ++ [v1]).dropLast)) r (.lst (rs' ++ [v2]).dropLast)) := same_upd (same_upd sm1 hl _) hr0 _
  have hl2 : upd (upd H1 l (.lst (ls' ++ [v1]).dropLast)) r (.lst (rs' ++ [v2]).dropLast) l = some (.lst ls') := by rw [upd_ne nlr, upd_same, List.dropLast_concat]
  have hr4 : upd (upd H1 l (.lst (ls' ++ [v1]).dropLast)) r (.lst (rs' ++ [v2]).dropLast) r = some (.lst rs') := by rw [upd_same, List.dropLast_concat]
  generalize upd (upd H1 l (.lst (ls' ++ [v1]).dropLast)) r (.lst (rs' ++ [v2]).dropLast) = H2 at s2 hl2 hr4
  have wsum := wts_append ds' [d']
  have wpos := d'.wt_pos
  have w1 : wts [d'] = d'.wt := Nat.add_zero _
  have lL := hL'.length
  have lR := hR'.length
  have ll := length_wts ds'
  -- the test whether it is a list or a tuple; what stays
  have stay : ∀ H3 : Hp, Same H2 H3 → (∃ m', m' < wts (ds' ++ [d']) ∧ ∃ (ds : List Dat) (ls rs : List V) (o1 o2 : Option V), m' = wts ds ∧ ([some x, some y, some (.ref l), some (.ref r), some v1, some v2] : St) = [some x, some y, some (.ref l), some (.ref r), o1, o2] ∧ Same H H3 ∧ H3 l = some (.lst ls) ∧ H3 r = some (.lst rs) ∧ DsAt H ls ds ∧ DsAt H rs ds ∧ wts ds ≤ 10000000) := fun H3 s3 =>
    ⟨wts ds', by omega, ds', ls', rs', _, _, rfl, rfl, s2.trans s3, s3 _ _ hl2, s3 _ _ hr4, hL', hR', by omega⟩
  have nest : ∀ (H3 : Hp) (es : List Dat) (us zs : List V), Same H2 H3 → 1 + wts es = d'.wt → DsAt H us es → DsAt H zs es → (∃ m', m' < wts (ds' ++ [d']) ∧ ∃ (ds : List Dat) (ls rs : List V) (o1 o2 : Option V), m' = wts ds ∧ ([some x, some y, some (.ref l), some (.ref r), some v1, some v2] : St) = [some x, some y, some (.ref l), some (.ref r), o1, o2] ∧ Same H (upd (upd H3 l (.lst (ls' ++ us))) r (.lst (rs' ++ zs))) ∧
      upd (upd H3 l (.lst (ls' ++ us))) r (.lst (rs' ++ zs)) l = some (.lst ls) ∧ upd (upd H3 l (.lst (ls' ++ us))) r (.lst (rs' ++ zs)) r = some (.lst rs) ∧ DsAt H ls ds ∧ DsAt H rs ds ∧ wts ds ≤ 10000000) := fun H3 es us zs s3 we hu hz => by
    have wa := wts_append ds' es
    exact ⟨wts (ds' ++ es), by omega, ds' ++ es, _, _, _, _, rfl, rfl, same_upd (same_upd (s2.trans s3) hl _) hr0 _, by rw [upd_ne nlr, upd_same], upd_same, hL'.append hu, hR'.append hz, by omega⟩
  cases d' with
  | tup es =>
    obtain ⟨a1, us, rfl, e1, hu1⟩ := h1.tup_inv
    obtain ⟨a2, zs, rfl, e2, hu2⟩ := h2.tup_inv
    have lu1 := hu1.length
    have lu2 := hu2.length
    have le := length_wts es
    have we : 1 + wts es = (Dat.tup es).wt := rfl
    refine ⟨_, rfl, line_le (by show 2 ≤ 16000000; decide), fun tp htp => ?_⟩
    have s3 := same_new (H := H2) htp (.tup [.ty "list", .ty "tuple"])
    have f1 := s3 _ _ (s2 _ _ e1)
    have f2 := s3 _ _ (s2 _ _ e2)
    refine ⟨_, tp, _, _, _, _, rfl, upd_same, .tup f2, kTL, _, rfl, iteT ?_⟩
    refine ⟨_, rfl, _, _, _, _, rfl, .tup f1, o_tl, _, rfl, _, _, _, _, rfl, .tup f2, o_tl, rfl, _, rfl, iteF ?_⟩
    refine ⟨_, rfl, _, _, _, _, rfl, .tup f1, o_tt, _, rfl, _, _, _, _, rfl, .tup f2, o_tt, rfl, _, rfl, iteF ?_⟩
    refine ⟨_, rfl, a1, us, rfl, .inr (SqT.of f1), _, rfl, a2, zs, rfl, .inr (SqT.of f2), rfl, _, rfl, ?_⟩
    refine ite2 (fun c => absurd c ?_) (fun _ => ?_)
    · rw [lu1, lu2]; simp
    refine ⟨_, rfl, .inl ⟨rfl, _, SqL.of (s3 _ _ hl2)⟩, _, rfl, .inr ⟨l, a1, ls', us, rfl, rfl, s3 _ _ hl2, SqT.of f1, line_le (by omega), ?_⟩⟩
    have g1 : ∀ b o, b ≠ l → upd H2 tp (.tup [.ty "list", .ty "tuple"]) b = some o → upd (upd H2 tp (.tup [.ty "list", .ty "tuple"])) l (.lst (ls' ++ us)) b = some o := fun b o hb e => by rw [upd_ne hb]; exact e
    have hr5 := g1 _ _ nlr.symm (s3 _ _ hr4)
    have na2 : a2 ≠ l := ne_of_none e2 hl
    refine ⟨_, rfl, .inl ⟨rfl, _, SqL.of hr5⟩, _, rfl, .inr ⟨r, a2, rs', zs, rfl, rfl, hr5, SqT.of (g1 _ _ na2 f2), line_le (by omega), ?_⟩⟩
    exact nest _ es us zs s3 we hu1 hu2
  | lst es =>
    obtain ⟨a1, us, rfl, e1, hu1⟩ := h1.lst_inv
    obtain ⟨a2, zs, rfl, e2, hu2⟩ := h2.lst_inv
    have lu1 := hu1.length
    have lu2 := hu2.length
    have le := length_wts es
    have we : 1 + wts es = (Dat.lst es).wt := rfl
    refine ⟨_, rfl, line_le (by show 2 ≤ 16000000; decide), fun tp htp => ?_⟩
    have s3 := same_new (H := H2) htp (.tup [.ty "list", .ty "tuple"])
    have f1 := s3 _ _ (s2 _ _ e1)
    have f2 := s3 _ _ (s2 _ _ e2)
    refine ⟨_, tp, _, _, _, _, rfl, upd_same, .lst f2, kLL, _, rfl, iteT ?_⟩
    refine ⟨_, rfl, _, _, _, _, rfl, .lst f1, o_ll, _, rfl, _, _, _, _, rfl, .lst f2, o_ll, rfl, _, rfl, iteF ?_⟩
    refine ⟨_, rfl, _, _, _, _, rfl, .lst f1, o_lt, _, rfl, _, _, _, _, rfl, .lst f2, o_lt, rfl, _, rfl, iteF ?_⟩
    refine ⟨_, rfl, a1, us, rfl, .inl (SqL.of f1), _, rfl, a2, zs, rfl, .inl (SqL.of f2), rfl, _, rfl, ?_⟩
    refine ite2 (fun c => absurd c ?_) (fun _ => ?_)
    · rw [lu1, lu2]; simp
    refine ⟨_, rfl, .inl ⟨rfl, _, SqL.of (s3 _ _ hl2)⟩, _, rfl, .inl ⟨l, a1, ls', us, rfl, rfl, s3 _ _ hl2, f1, line_le (by omega), ?_⟩⟩
    have g1 : ∀ b o, b ≠ l → upd H2 tp (.tup [.ty "list", .ty "tuple"]) b = some o → upd (upd H2 tp (.tup [.ty "list", .ty "tuple"])) l (.lst (ls' ++ us)) b = some o := fun b o hb e => by rw [upd_ne hb]; exact e
    have hr5 := g1 _ _ nlr.symm (s3 _ _ hr4)
    have na2 : a2 ≠ l := ne_of_none e2 hl
    refine ⟨_, rfl, .inl ⟨rfl, _, SqL.of hr5⟩, _, rfl, .inl ⟨r, a2, rs', zs, rfl, rfl, hr5, g1 _ _ na2 f2, line_le (by omega), ?_⟩⟩
    exact nest _ es us zs s3 we hu1 hu2
  | non =>
    cases h1
    cases h2
    refine ⟨_, rfl, line_le (by show 2 ≤ 16000000; decide), fun tp htp => ?_⟩
    have s3 := same_new (H := H2) htp (.tup [.ty "list", .ty "tuple"])
    refine ⟨_, tp, _, _, _, _, rfl, upd_same, .non, kNL, _, rfl, iteF ?_⟩
    refine ⟨_, rfl, _, rfl, itD rfl ?_⟩
    refine ⟨_, rfl, _, rfl, iteF ?_⟩
    exact stay _ s3
  | bl b =>
    cases h1
    cases h2
    refine ⟨_, rfl, line_le (by show 2 ≤ 16000000; decide), fun tp htp => ?_⟩
    have s3 := same_new (H := H2) htp (.tup [.ty "list", .ty "tuple"])
    refine ⟨_, tp, _, _, _, _, rfl, upd_same, .bl b, kBL, _, rfl, iteF ?_⟩
    refine ⟨_, rfl, _, rfl, itN (by intro z; cases z) ?_⟩
    refine ⟨_, rfl, _, _, _, _, rfl, .bl b, o_bb, _, rfl, iteT ?_⟩
    refine ⟨_, rfl, _, _, _, _, rfl, .bl b, o_bb, _, rfl, iteF ?_⟩
    refine ⟨_, rfl, _, rfl, (by cases b <;> rfl), _, rfl, ?_⟩
    refine ite2 (fun c => absurd c (by simp)) (fun _ => ?_)
    exact stay _ s3
  | str z =>
    cases h1
    cases h2
    refine ⟨_, rfl, line_le (by show 2 ≤ 16000000; decide), fun tp htp => ?_⟩
    have s3 := same_new (H := H2) htp (.tup [.ty "list", .ty "tuple"])
    refine ⟨_, tp, _, _, _, _, rfl, upd_same, .str z, kSL, _, rfl, iteF ?_⟩
    refine ⟨_, rfl, _, rfl, itN (by intro z; cases z) ?_⟩
    refine ⟨_, rfl, _, _, _, _, rfl, .str z, o_sb, _, rfl, iteF ?_⟩
    refine ⟨_, rfl, _, _, _, _, rfl, .str z, o_ss, _, rfl, iteT ?_⟩
    refine ⟨_, rfl, _, _, _, _, rfl, .str z, o_ss, _, rfl, iteF ?_⟩
    refine ⟨_, rfl, _, rfl, rfl, _, rfl, ?_⟩
    refine ite2 (fun c => absurd c (by simp)) (fun _ => ?_)
    exact stay _ s3
  | int z =>
    cases h1
    cases h2
    refine ⟨_, rfl, line_le (by show 2 ≤ 16000000; decide), fun tp htp => ?_⟩
    have s3 := same_new (H := H2) htp (.tup [.ty "list", .ty "tuple"])
    refine ⟨_, tp, _, _, _, _, rfl, upd_same, .int z, kIL, _, rfl, iteF ?_⟩
    refine ⟨_, rfl, _, rfl, itN (by intro z; cases z) ?_⟩
    refine ⟨_, rfl, _, _, _, _, rfl, .int z, o_ib, _, rfl, iteF ?_⟩
    refine ⟨_, rfl, _, _, _, _, rfl, .int z, o_is, _, rfl, iteF ?_⟩
    refine ⟨_, rfl, z, rfl, _, rfl, iteF ?_⟩
    refine ⟨_, rfl, _, rfl, rfl, _, rfl, ?_⟩
    refine ite2 (fun c => absurd c (by simp)) (fun _ => ?_)
    exact stay _ s3
end
end Ws

namespace Ws
open PySem L2
section
variable {P : Program} {w : World} {K : PySem.W.Frag} {mg : Str → Option Value} {base : Heap}
seal L2.PSs L2.PS L2.PE L2.PA L2.PT L2.PG L2.PF L2.PI
/-- the first mark: some whole number -/
def spMark (K : PySem.W.Frag) : Sp := fun vs H Q _ => ∃ (a : Addr) (ns : List Int), vs = [.ref a] ∧ SqL K H a (ns.map V.int) ∧ ns.length ≤ 1000000 ∧ ∀ (i : Int) (H' : Hp), Same H H' → Q (.int i) H'
theorem ok_first_mark {f g : Addr} {fd gd : FuncData} (F : Fun K "_law_first_mark" "_law_first_mark" sd_first_mark f fd) (G_at : FnOk P w K mg base CX0 1 g gd ["_law_script", "_law_k"] (spAt K)) (M_at : MG K mg "_law_at" ["_law_script", "_law_k"] g gd) :
    FnOk P w K mg base CX0 2 f fd ["_law_script"] (spMark K) := by
  refine F.ok sc_first_mark (fun vs H Q E h => ?_) (fun cdv A outer s H vs Q E hr h => ?_)
  · obtain ⟨a, ns, rfl, _⟩ := h
    rfl
  obtain ⟨a, ns, rfl, hS, hl, q⟩ := h
  refine ⟨_, 
    (pss_cons (ps_set (i := 1) sc_first_mark.nd rfl (Or.inl rfl) (pe_call G_at (hr.mono (by decide)) rfl M_at.m M_at.k M_at.b .nil pass0 (pa_cons (pv 0) (pa_cons pe_int pa_nil))))
    (pss_one (ps_ret (pe_ix ix_list (pe_lst (pa_cons pe_int (pa_cons (pe_op op_mod (pv 1) (pe_op op_pow pe_int pe_int)) (pa_cons (pe_op op_sub pe_int (pe_op op_mod (pv 1) (pe_op op_pow pe_int pe_int))) pa_nil)))) (pe_op op_mod (pv 1) pe_int) (fun _ _ => rfl))))), ?_⟩
  refine ⟨_, rfl, a, ns, 30, rfl, hS, hl, fun i H1 s1 => ?_⟩
  refine ⟨_, rfl, _, _, rfl, rfl, ⟨by decide, by decide, by decide⟩, _, _, rfl, rfl, (by show (0 : Int) < 10 ^ (60 : Int).toNat; decide), ?_⟩
  refine ⟨_, rfl, _, _, rfl, rfl, ⟨by decide, by decide, by decide⟩, _, _, rfl, rfl, (by show (0 : Int) < 10 ^ (60 : Int).toNat; decide), _, _, rfl, rfl, line_le (by show 3 ≤ 16000000; decide), fun l hl1 => ?_⟩
  obtain ⟨e, he⟩ := three i 0 (i % 10 ^ (60 : Int).toNat) (0 - i % 10 ^ (60 : Int).toNat)
  refine ⟨_, rfl, _, _, rfl, rfl, (by show (0 : Int) < 3; decide), l, _, _, _, rfl, rfl, SqL.of upd_same, he, ?_⟩
  exact q e _ (s1.trans (same_new hl1 _))
end
end Ws

namespace Ws
open PySem L2
section
variable {P : Program} {w : World} {K : PySem.W.Frag} {mg : Str → Option Value} {base : Heap}
seal L2.PSs L2.PS L2.PE L2.PA L2.PT L2.PG L2.PF L2.PI
/-- how many states: one to forty -/
def spCount (K : PySem.W.Frag) : Sp := fun vs H Q _ => ∃ (a : Addr) (ns : List Int), vs = [.ref a] ∧ SqL K H a (ns.map V.int) ∧ ns.length ≤ 1000000 ∧ ∀ (n : Nat) (H' : Hp), 1 ≤ n → n ≤ 40 → Same H H' → Q (.int (n : Int)) H'
theorem ok_count_of {f g : Addr} {fd gd : FuncData} (F : Fun K "_law_count_of" "_law_count_of" sd_count_of f fd) (G_at : FnOk P w K mg base CX0 1 g gd ["_law_script", "_law_k"] (spAt K)) (M_at : MG K mg "_law_at" ["_law_script", "_law_k"] g gd) :
    FnOk P w K mg base CX0 2 f fd ["_law_script"] (spCount K) := by
  refine F.ok sc_count_of (fun vs H Q E h => ?_) (fun cdv A outer s H vs Q E hr h => ?_)
  · obtain ⟨a, ns, rfl, _⟩ := h
    rfl
  obtain ⟨a, ns, rfl, hS, hl, q⟩ := h
  refine ⟨_, 
    (pss_cons (ps_if (pt_cmpR op_eq (pe_op op_mod (pe_call G_at (hr.mono (by decide)) rfl M_at.m M_at.k M_at.b .nil pass0 (pa_cons (pv 0) (pa_cons pe_int pa_nil))) pe_int) pe_int (nomark _))
    (pss_cons (ps_if (pt_cmpR op_eq (pe_op op_mod (pe_call G_at (hr.mono (by decide)) rfl M_at.m M_at.k M_at.b .nil pass0 (pa_cons (pv 0) (pa_cons pe_int pa_nil))) pe_int) pe_int (nomark _))
    (pss_one (ps_ret (pe_op op_add pe_int (pe_op op_mod (pe_call G_at (hr.mono (by decide)) rfl M_at.m M_at.k M_at.b .nil pass0 (pa_cons (pv 0) (pa_cons pe_int pa_nil))) pe_int))))
    pss_nil)
    (pss_one (ps_ret (pe_op op_add pe_int (pe_op op_mod (pe_call G_at (hr.mono (by decide)) rfl M_at.m M_at.k M_at.b .nil pass0 (pa_cons (pv 0) (pa_cons pe_int pa_nil))) pe_int)))))
    pss_nil)
    (pss_one (ps_ret (pe_op op_add pe_int (pe_op op_mod (pe_call G_at (hr.mono (by decide)) rfl M_at.m M_at.k M_at.b .nil pass0 (pa_cons (pv 0) (pa_cons pe_int pa_nil))) pe_int))))), ?_⟩
  refine ⟨_, rfl, a, ns, 1, rfl, hS, hl, fun i H1 s1 => ⟨_, _, rfl, rfl, (by show (0 : Int) < 3; decide), rfl, _, rfl, ite2 (fun _ => ?_) (fun _ => ?_)⟩⟩
  · refine ⟨_, rfl, a, ns, 29, rfl, s1.seq hS, hl, fun i H2 s2 => ⟨_, _, rfl, rfl, (by show (0 : Int) < 4; decide), rfl, _, rfl, ite2 (fun _ => ?_) (fun _ => ?_)⟩⟩
    · refine ⟨_, rfl, a, ns, 0, rfl, (s1.trans s2).seq hS, hl, fun i H3 s3 => ⟨_, _, rfl, rfl, (by show (0 : Int) < 30; decide), _, _, rfl, rfl, ?_⟩⟩
      exact cnt_ok (Q := Q) (fun n a b => q n _ a b ((s1.trans s2).trans s3)) (by have := Int.emod_nonneg i (show (30 : Int) ≠ 0 by decide); omega) (by have := Int.emod_lt_of_pos i (show (0 : Int) < 30 by decide); omega)
    · refine ⟨_, rfl, a, ns, 0, rfl, (s1.trans s2).seq hS, hl, fun i H3 s3 => ⟨_, _, rfl, rfl, (by show (0 : Int) < 5; decide), _, _, rfl, rfl, ?_⟩⟩
      exact cnt_ok (Q := Q) (fun n a b => q n _ a b ((s1.trans s2).trans s3)) (by have := Int.emod_nonneg i (show (5 : Int) ≠ 0 by decide); omega) (by have := Int.emod_lt_of_pos i (show (0 : Int) < 5 by decide); omega)
  · refine ⟨_, rfl, a, ns, 0, rfl, s1.seq hS, hl, fun i H3 s3 => ⟨_, _, rfl, rfl, (by show (0 : Int) < 6; decide), _, _, rfl, rfl, ?_⟩⟩
    exact cnt_ok (Q := Q) (fun n a b => q n _ a b (s1.trans s3)) (by have := Int.emod_nonneg i (show (6 : Int) ≠ 0 by decide); omega) (by have := Int.emod_lt_of_pos i (show (0 : Int) < 6 by decide); omega)
end
end Ws

namespace Ws
open PySem L2
section
variable {P : Program} {w : World} {K : PySem.W.Frag} {mg : Str → Option Value} {base : Heap}
theorem wk_marks : ∀ D σ H, tMay 5 (fun σ H => (∃ z : Int, σ[4]? = some (some (.int z))) ∧ ∃ (a : Addr) (ns : List Int), σ[1]? = some (some (.ref a)) ∧ SqL K H a (ns.map V.int) ∧ ns.length ≤ 1000000) (fun _ y => ∃ z, y = V.int z) D σ H →
    tIfS (tTest (tOp rEq (tCall spDraw [] E0 (tCons (tVar 4) (tCons (tC (.int 1009)) (tCons (tC (.int 3)) tNil)))) (tC (.int 1)))) (tDrop (tBM K "list" rAppend (tVar 5) (tCons (tOp (rI0 fun i j => .int (i + j)) (tCall (spMark K) [] E0 (tCons (tVar 1) tNil)) (tC (.int 1000000007))) tNil))) tNext D σ H := by
  rintro D σ H ⟨p, xs, e5, hp, hz, ⟨⟨z, e4⟩, a, ns, e1, hS, hl⟩, k⟩
  refine ⟨_, e4, z, 1009, 3, rfl, by decide, by decide, fun i _ _ => ⟨rfl, _, rfl, ite2 (fun _ => ?_) (fun _ => ?_)⟩⟩
  · refine ⟨_, e5, .inl ⟨rfl, _, SqL.of hp⟩, _, e1, a, ns, rfl, hS, hl, fun y H1 s1 => ⟨_, _, rfl, rfl, p, xs, _, rfl, rfl, s1 _ _ hp, line_lt (by omega), ?_⟩⟩
    exact k _ _ (.inr ⟨_, ⟨_, rfl⟩, rfl⟩) upd_same (fun b o hb e => by rw [upd_ne hb]; exact s1 _ _ e)
  · exact k H xs (.inl rfl) hp (fun b o _ e => e)
theorem wk_doors : ∀ D σ H, tMay 6 (fun σ H => (∃ z : Int, σ[4]? = some (some (.int z))) ∧ ∃ (q : Addr) (ds : List Int) (m : Int), σ[6]? = some (some (.ref q)) ∧ H q = some (.lst (ds.map V.int)) ∧ σ[7]? = some (some (.int m))) (fun σ y => σ[7]? = some (some y)) D σ H →
    tIfS (tAnd (tTest (tOp rEq (tCall spDraw [] E0 (tCons (tVar 4) (tCons (tC (.int 1019)) (tCons (tC (.int 5)) tNil)))) (tC (.int 2)))) (tTest (tOp (rIn K true) (tVar 7) (tVar 6)))) (tDrop (tBM K "list" rAppend (tVar 6) (tCons (tVar 7) tNil))) tNext D σ H := by
  rintro D σ H ⟨p, xs, e6, hp, hz, ⟨⟨z, e4⟩, q, ds, m, e6', hq, e7⟩, k⟩
  have no : D.nx σ H := k H xs (.inl rfl) hp (fun b o _ e => e)
  refine ⟨_, e4, z, 1019, 5, rfl, by decide, by decide, fun i _ _ => ⟨rfl, _, rfl, ite2 (fun _ => ?_) (fun _ => no)⟩⟩
  refine ⟨_, e7, _, e6', q, _, rfl, .inl (SqL.of hq), rfl, ?_, _, rfl, ite2 (fun _ => ?_) (fun _ => no)⟩
  · rw [List.all_map]
    exact List.all_eq_true.mpr fun x _ => rfl
  refine ⟨_, e6, .inl ⟨rfl, _, SqL.of hp⟩, _, e7, p, xs, _, rfl, rfl, hp, line_lt (by omega), ?_⟩
  exact k _ _ (.inr ⟨_, e7, rfl⟩) upd_same (fun b o hb e => by rw [upd_ne hb]; exact e)
seal L2.PSs L2.PS L2.PE L2.PA L2.PT L2.PG L2.PF L2.PI
/-- a world: some one that is as it should be -/
def spWorld (K : PySem.W.Frag) : Sp := fun vs H Q _ => ∃ (a : Addr) (ns : List Int) (n : Nat), vs = [.int (n : Int), .ref a] ∧ SqL K H a (ns.map V.int) ∧ ns.length ≤ 1000000 ∧ 1 ≤ n ∧ n ≤ 100 ∧
  ∀ (v : V) (W : World2) (H' : Hp), Same H H' → DAt H' v (wdat W) → Valid n 100 W → Q v H'
theorem ok_line_of {f g h j : Addr} {fd gd hd' jd : FuncData} (F : Fun K "_law_line_of" "_law_line_of" sd_line_of f fd) (B : Blt mg) (G_at : FnOk P w K mg base CX0 1 g gd ["_law_script", "_law_k"] (spAt K)) (M_at : MG K mg "_law_at" ["_law_script", "_law_k"] g gd)
    (G_first_mark : FnOk P w K mg base CX0 2 h hd' ["_law_script"] (spMark K)) (M_first_mark : MG K mg "_law_first_mark" ["_law_script"] h hd') (G_draw : FnOk P w K mg base CX0 1 j jd ["_law_number", "_law_prime", "_law_many"] spDraw) (M_draw : MG K mg "_law_draw" ["_law_number", "_law_prime", "_law_many"] j jd) :
    FnOk P w K mg base CX0 3 f fd ["_law_count", "_law_script"] (spWorld K) := by
  refine F.ok sc_line_of (fun vs H Q E h => ?_) (fun cdv A outer s H vs Q E hr h => ?_)
  · obtain ⟨a, ns, n, rfl, _⟩ := h
    rfl
  obtain ⟨a, ns, n, rfl, hS, hl, h1, hn, k⟩ := h
  refine ⟨_, 
    (pss_cons (ps_set (i := 2) sc_line_of.nd rfl (Or.inl rfl) (pe_lst pa_nil))
    (pss_cons (ps_for PassesOwn.never rfl (pi_range1 rfl B.range (pa_cons (pv 0) pa_nil)) (pg_name (i := 3) sc_line_of.nd rfl (Or.inl rfl))
    (pss_cons (ps_set (i := 4) sc_line_of.nd rfl (Or.inl rfl) (pe_op op_add (pe_call G_at (hr.mono (by decide)) rfl M_at.m M_at.k M_at.b .nil pass0 (pa_cons (pv 1) (pa_cons (pe_op op_add pe_int (pv 3)) pa_nil))) (pe_op op_mul pe_int (pv 3))))
    (pss_cons (ps_set (i := 5) sc_line_of.nd rfl (Or.inl rfl) (pe_lst (pa_cons (pe_op op_sub (pe_call G_first_mark (hr.mono (by decide)) rfl M_first_mark.m M_first_mark.k M_first_mark.b .nil pass0 (pa_cons (pv 1) pa_nil)) (pe_callTy call_int1 rfl B.int bInt (pa_cons (pe_cmpR op_eq (pv 3) (pe_op op_sub (pv 0) pe_int) (nomark _)) pa_nil))) pa_nil)))
    (pss_cons (ps_weak (ps_if (pt_cmpR op_eq (pe_call G_draw (hr.mono (by decide)) rfl M_draw.m M_draw.k M_draw.b .nil pass0 (pa_cons (pv 4) (pa_cons pe_int (pa_cons pe_int pa_nil)))) pe_int (nomark _))
    (pss_one (ps_expr (pe_bm PySem.F.plainAttrs_list PySem.F.slot_list_append PySem.F.type_list_append mt_append (pv 5) (pa_cons (pe_op op_add (pe_call G_first_mark (hr.mono (by decide)) rfl M_first_mark.m M_first_mark.k M_first_mark.b .nil pass0 (pa_cons (pv 1) pa_nil)) pe_int) pa_nil))))
    pss_nil) (wk_marks (K := K)))
    (pss_cons (ps_set (i := 6) sc_line_of.nd rfl (Or.inl rfl) (pe_lst (pa_cons (pe_callB (call_min2 rfl) rfl B.min bMin (pa_cons (pe_op op_add (pv 3) pe_int) (pa_cons (pe_op op_sub (pv 0) pe_int) pa_nil))) pa_nil)))
    (pss_cons (ps_set (i := 7) sc_line_of.nd rfl (Or.inl rfl) (pe_call G_draw (hr.mono (by decide)) rfl M_draw.m M_draw.k M_draw.b .nil pass0 (pa_cons (pv 4) (pa_cons pe_int (pa_cons (pv 0) pa_nil)))))
    (pss_cons (ps_weak (ps_if (PW.pt (pw_and (pt_cmpR op_eq (pe_call G_draw (hr.mono (by decide)) rfl M_draw.m M_draw.k M_draw.b .nil pass0 (pa_cons (pv 4) (pa_cons pe_int (pa_cons pe_int pa_nil)))) pe_int (nomark _)) (pw_and1 (pt_cmpR op_notIn_seq (pv 7) (pv 6) rfl))))
    (pss_one (ps_expr (pe_bm PySem.F.plainAttrs_list PySem.F.slot_list_append PySem.F.type_list_append mt_append (pv 6) (pa_cons (pv 7) pa_nil))))
    pss_nil) (wk_doors (K := K)))
    (pss_one (ps_expr (pe_bm PySem.F.plainAttrs_list PySem.F.slot_list_append PySem.F.type_list_append mt_append (pv 2) (pa_cons (pe_tup (pa_cons (pv 5) (pa_cons (pv 6) pa_nil))) pa_nil)))))))))))
    (pss_cons (ps_set (i := 8) sc_line_of.nd rfl (Or.inr rfl) (pe_call G_at (hr.mono (by decide)) rfl M_at.m M_at.k M_at.b .nil pass0 (pa_cons (pv 1) (pa_cons pe_int pa_nil))))
    (pss_cons (ps_if (pt_cmpR op_eq (pe_op op_mod (pv 8) pe_int) pe_int (nomark _))
    (pss_cons (ps_comp (i := 6) sc_line_of.nd rfl rfl rfl cs_line_of_0 rfl rfl (pi_range1 rfl B.range (pa_cons (pv 0) pa_nil)) (fun _ _ _ _ _ => pg_name (i := 0) cs_line_of_0.nd rfl (Or.inl rfl)) (fun _ _ _ _ _ => pf_nil) (fun _ _ _ _ _ => (pe_op op_mod (pe_op op_sub (pe_op op_fdiv (pv 2) pe_int) (pv 0)) (pv 1))))
    (pss_cons (ps_expr (pe_bm0 PySem.F.plainAttrs_list PySem.F.slot_list_clear PySem.F.type_list_clear mt_clear (pe_ix ix_tup (pe_ix ix_list (pv 2) (pe_op op_mod (pe_op op_fdiv (pv 8) pe_int) (pv 0)) (fun _ _ => rfl)) pe_int (fun _ _ => rfl))))
    (pss_one (ps_expr (pe_bm PySem.F.plainAttrs_list PySem.F.slot_list_extend PySem.F.type_list_extend mt_extend (pe_ix ix_tup (pe_ix ix_list (pv 2) (pe_op op_mod (pe_op op_fdiv (pv 8) pe_int) (pv 0)) (fun _ _ => rfl)) pe_int (fun _ _ => rfl)) (pa_cons (pv 6) pa_nil))))))
    pss_nil)
    (pss_one (ps_ret (pv 2))))))), ?_⟩
  refine ⟨line0, fun q hq => ?_⟩
  have fin : ∀ (H' : Hp) (rs : List Rec), Line H H' q rs → rs.length = n → (∀ (i : Nat) (r : Rec), rs[i]? = some r → StOk n 100 r.s) → Q (.ref q) H' := fun H' rs L el ok =>
    k _ _ _ L.same L.done (valid_of (by rw [List.length_map, el]) fun s hs => by
      obtain ⟨r, hr, rfl⟩ := List.mem_map.mp hs
      obtain ⟨i, hi, rfl⟩ := List.getElem_of_mem hr
      exact ok i _ (List.getElem?_eq_getElem hi))
  refine ⟨_, rfl, n, rfl, by omega, by omega, for_range (lo := 0) (n := n) (fun i σ' H' => ∃ (rs : List Rec) (o3 o4 o5 o6 o7 : Option V), σ' = [some (.int (n : Int)), some (.ref a), some (.ref q), o3, o4, o5, o6, o7, none] ∧ Line H H' q rs ∧ rs.length = i ∧ ∀ (i : Nat) (r : Rec), rs[i]? = some r → StOk n 100 r.s)
    ⟨[], none, none, none, none, none, rfl, Line.start hq, rfl, fun i r e => by simp at e⟩ ?_ ?_⟩
  · rintro i σ' H1 hi ⟨rs, o3, o4, o5, o6, o7, rfl, L, el, ok⟩
    refine ⟨_, rfl, _, rfl, _, _, rfl, rfl, a, ns, _, rfl, L.same.seq hS, hl, fun z H2 s2 => ⟨_, rfl, _, _, rfl, rfl, .inl ⟨by decide, by decide⟩, _, _, rfl, rfl, ?_⟩⟩
    have L2' := L.keep s2
    refine ⟨_, rfl, a, ns, rfl, L2'.same.seq hS, hl, fun y H3 s3 => ?_⟩
    have L3 := L2'.keep s3
    refine ⟨_, rfl, _, rfl, _, _, rfl, rfl, rfl, .inr ⟨_, rfl, _, _, rfl, rfl, line_le (by show 1 ≤ 16000000; decide), fun p hp => ?_⟩⟩
    refine ⟨p, _, rfl, upd_same, by show 1 ≤ 1000000; decide, ⟨⟨_, rfl⟩, a, ns, rfl, (L3.same.trans (same_new hp _)).seq hS, hl⟩, fun H5 ys hys hp5 k5 => ?_⟩
    obtain ⟨ms, lm, rfl⟩ : ∃ ms : List Int, ms.length ≤ 2 ∧ ys = ms.map V.int := by
      rcases hys with rfl | ⟨_, ⟨z', rfl⟩, rfl⟩
      · exact ⟨[_], by show 1 ≤ 2; decide, rfl⟩
      · exact ⟨[_, z'], by show 2 ≤ 2; decide, rfl⟩
    have s5 : Same H3 H5 := fun b o e => k5 b o (ne_of_none e hp) (by rw [upd_ne (ne_of_none e hp)]; exact e)
    have L5 := L3.keep s5
    clear k5
    refine ⟨_, rfl, _, _, rfl, rfl, _, rfl, _, _, rfl, rfl, _, _, rfl, line_le (by show 1 ≤ 16000000; decide), fun r hr1 => ?_⟩
    refine ⟨_, rfl, _, rfl, _, 1013, n, rfl, by decide, by omega, fun mo h0 h1' => ?_⟩
    refine ⟨r, _, rfl, upd_same, by show 1 ≤ 1000000; decide, ⟨⟨_, rfl⟩, r, [_], mo, rfl, upd_same, rfl⟩, fun H7 ds hds hr7 k7 => ?_⟩
    have hdoor : ∃ dd : List Int, ds = dd.map V.int ∧ StOk n 100 (ms, dd) := by
      have first : ∀ x : Int, x = (if (n : Int) - 1 < 0 + (i : Int) + 1 then (n : Int) - 1 else 0 + (i : Int) + 1) → 0 ≤ x ∧ x < (n : Int) := fun x e => by
        split at e <;> omega
      rcases hds with rfl | ⟨y', e7, rfl⟩
      · refine ⟨[_], rfl, by simp, fun d hd => ?_, by show ms.length ≤ 100; omega, by show 1 ≤ 100; decide⟩
        rw [List.mem_singleton] at hd
        exact first d hd
      · have e7 : some (some (V.int mo)) = some (some y') := e7
        cases e7
        refine ⟨[_, mo], rfl, by simp, fun d hd => ?_, by show ms.length ≤ 100; omega, by show 2 ≤ 100; decide⟩
        have hd : d ∈ [_, mo] := hd
        rw [List.mem_cons, List.mem_singleton] at hd
        rcases hd with hd | hd
        · exact first d hd
        · rw [hd]; exact ⟨h0, h1'⟩
    obtain ⟨dd, rfl, sok⟩ := hdoor
    clear hds
    have s7 : Same H5 H7 := fun b o e => k7 b o (ne_of_none e hr1) (by rw [upd_ne (ne_of_none e hr1)]; exact e)
    have L7 := L5.keep s7
    refine ⟨_, rfl, .inl ⟨rfl, _, SqL.of L7.at_⟩, _, rfl, _, rfl, line_le (by show 2 ≤ 16000000; decide), fun t ht => ?_⟩
    have s8 := same_new ht (.tup [V.ref p, V.ref r])
    have L8 := L7.keep s8
    refine ⟨q, _, _, rfl, rfl, L8.at_, by rw [List.length_map]; exact line_lt (by omega), ?_⟩
    have hp7 : H7 p = some (.lst (ms.map V.int)) := s7 _ _ hp5
    refine ⟨rs ++ [⟨t, p, r, (ms, dd)⟩], _, _, _, _, _, rfl, L8.push (r := ⟨t, p, r, (ms, dd)⟩) upd_same (s8 _ _ hp7) (s8 _ _ hr7) (L5.same.free hr1) ?_ ?_ ?_ ?_ ?_, ?_, ?_⟩
    · exact fun z => by rw [show r = q from z, L5.at_] at hr1; cases hr1
    · exact fun z => by rw [show p = q from z, L3.at_] at hp; cases hp
    · exact fun z => by rw [show t = q from z, L7.at_] at ht; cases ht
    · exact ne_of_none hp5 hr1
    · intro i' r' e'
      obtain ⟨_, b5, c5, _⟩ := L5.tu i' r' e'
      obtain ⟨_, _, c3, _⟩ := L3.tu i' r' e'
      exact ⟨ne_of_none b5 hr1, (ne_of_none c3 hp).symm, ne_of_none c5 hr1⟩
    · rw [List.length_append, el]; rfl
    · intro i' r' e'
      rcases snoc_get e' with ⟨e1, _⟩ | ⟨_, rfl⟩
      · exact ok i' r' e1
      · exact sok
  · rintro σ' H1 ⟨rs, o3, o4, o5, o6, o7, rfl, L, el, ok⟩
    refine ⟨_, rfl, a, ns, 28, rfl, L.same.seq hS, hl, fun tu H2 s2 => ?_⟩
    have L2' := L.keep s2
    refine ⟨_, rfl, _, _, rfl, rfl, (by show (0 : Int) < 2; decide), rfl, _, rfl, ite2 (fun _ => ?_) (fun _ => ⟨_, rfl, fin _ rs L2' el ok⟩)⟩
    refine ⟨_, rfl, n, rfl, by omega, by omega, fun D hD => ?_⟩
    refine comp_range (lo := 0) (n := n) (fun j es τ H' => ∃ zs : List Int, zs.length = j ∧ (∀ z ∈ zs, 0 ≤ z ∧ z < (n : Int)) ∧ es = zs.map V.int ∧ H' D = some (.lst es) ∧ Same H2 H' ∧ ∃ v, τ = [v, some (.int (n : Int)), some (.int tu)]) ⟨[], rfl, (fun _ h => nomatch h), rfl, upd_same, same_new hD _, none, rfl⟩ ?_ ?_
    · rintro j' es τ H3 hj ⟨zs, ez, hz, rfl, hD3, s3, v, rfl⟩
      have lz : (zs.map V.int).length = j' := by rw [List.length_map, ez]
      refine ⟨_, rfl, _, _, rfl, rfl, ⟨by decide, by decide⟩, _, rfl, _, _, rfl, rfl, _, rfl, _, _, rfl, rfl, (by omega), hD3, line_lt (by omega), ?_⟩
      refine ⟨zs ++ [(tu / 2 - (0 + (j' : Int))) % (n : Int)], ?_, fun z hz' => ?_, ?_, upd_same, same_upd s3 hD _, _, rfl⟩
      · rw [List.length_append, ez]; rfl
      · rcases List.mem_append.mp hz' with hz' | hz'
        · exact hz z hz'
        · rw [List.mem_singleton] at hz'
          rw [hz']
          exact ⟨Int.emod_nonneg _ (by omega), Int.emod_lt_of_pos _ (by omega)⟩
      · rw [List.map_append]; rfl
    rintro es τ H3 ⟨zs, ez, hz, rfl, hD3, s3, v, rfl⟩
    have L3 := L2'.keep s3
    have hj0 : 0 ≤ tu / 2 % (n : Int) := Int.emod_nonneg _ (by omega)
    have hj1 : tu / 2 % (n : Int) < (n : Int) := Int.emod_lt_of_pos _ (by omega)
    obtain ⟨jj, ej⟩ : ∃ jj : Nat, tu / 2 % (n : Int) = (jj : Int) := ⟨(tu / 2 % (n : Int)).toNat, by omega⟩
    have hjl : jj < rs.length := by omega
    have er : rs[jj]? = some rs[jj] := List.getElem?_eq_getElem hjl
    obtain ⟨ta, tb, tc, td, te, tf, tg⟩ := L3.tu jj _ er
    have eat : atI (rs.map fun r => V.ref r.t) (tu / 2 % (n : Int)) = some (V.ref rs[jj].t) := atI_of (map_nth hjl) ej
    refine ⟨_, rfl, _, rfl, _, _, rfl, rfl, ⟨by decide, by decide⟩, _, rfl, _, _, rfl, rfl, (by omega), q, _, _, _, rfl, rfl, SqL.of L3.at_, eat, rs[jj].t, _, _, _, rfl, rfl, SqT.of ta, at1, .inl ⟨rfl, _, SqL.of tc⟩, rs[jj].d, _, rfl, rfl, tc, ?_⟩
    have L4 := L3.store er []
    have L5 := L3.store er zs
    have ta4 : upd H3 rs[jj].d (.lst []) rs[jj].t = some (.tup [.ref rs[jj].m, .ref rs[jj].d]) := by rw [upd_ne (ne_of ta tc (by intro z; cases z))]; exact ta
    have hq4 : upd H3 rs[jj].d (.lst []) q = some (.lst (rs.map fun r => V.ref r.t)) := by rw [upd_ne (Ne.symm te)]; exact L3.at_
    have nD : D ≠ rs[jj].d := fun z => by
      obtain ⟨_, _, c2, _⟩ := L2'.tu jj _ er
      rw [z, c2] at hD; cases hD
    have hD4 : upd H3 rs[jj].d (.lst []) D = some (.lst (zs.map V.int)) := by rw [upd_ne nD]; exact hD3
    refine ⟨_, rfl, _, rfl, _, _, rfl, rfl, ⟨by decide, by decide⟩, _, rfl, _, _, rfl, rfl, (by omega), q, _, _, _, rfl, rfl, SqL.of hq4, eat, rs[jj].t, _, _, _, rfl, rfl, SqT.of ta4, at1, .inl ⟨rfl, _, SqL.of upd_same⟩, _, rfl, rs[jj].d, D, _, _, rfl, rfl, upd_same, hD4, ?_, ?_⟩
    · show ([] : List V).length + (zs.map V.int).length ≤ sizeLine
      rw [List.length_map, ez]
      exact line_le (by show 0 + n ≤ 16000000; omega)
    refine ⟨_, rfl, ?_⟩
    rw [upd_upd]
    refine fin _ _ L5 (by rw [List.length_set, el]) fun i' r' e' => ?_
    by_cases hi' : i' = jj
    · subst hi'
      rw [List.getElem?_set_self hjl] at e'
      cases e'
      have o := ok i' _ er
      refine ⟨?_, hz, o.2.2.1, by show zs.length ≤ 100; omega⟩
      intro z0
      have z0 : zs = [] := z0
      rw [z0] at ez
      have : ([] : List Int).length = 0 := rfl
      omega
    · rw [List.getElem?_set_ne (fun z => hi' z.symm)] at e'
      exact ok i' r' e'
end
end Ws

namespace Ws
open PySem L2
section
variable {P : Program} {w : World} {K : PySem.W.Frag} {mg : Str → Option Value} {base : Heap}
theorem wk_spot : ∀ D σ H, tMay 5 (fun σ H => (∃ z : Int, σ[4]? = some (some (.int z))) ∧ (∃ j : Nat, j < 3 ∧ σ[7]? = some (some (.int (0 + (j : Int))))) ∧ ∃ (a : Addr) (ns : List Int), σ[1]? = some (some (.ref a)) ∧ SqL K H a (ns.map V.int) ∧ ns.length ≤ 1000000) (fun _ y => ∃ z, y = V.int z) D σ H →
    tIfS (tTest (tOp rEq (tCall spDraw [] E0 (tCons (tOp (rI0 fun i j => .int (i + j)) (tVar 4) (tOp (rI CMul fun i j => .int (i * j)) (tC (.int 104729)) (tVar 7))) (tCons (tC (.int 1009)) (tCons (tC (.int 2)) tNil)))) (tC (.int 1))))
      (tDrop (tBM K "list" rAppend (tVar 5) (tCons (tOp (rI0 fun i j => .int (i + j)) (tCall (spMark K) [] E0 (tCons (tVar 1) tNil)) (tOp (rIxL K) (tLst (tCons (tC (.int 0)) (tCons (tUn (rU fun i => .int (-i)) (tC (.int 1))) (tCons (tC (.int 1000000007)) tNil)))) (tVar 7))) tNil))) tNext D σ H := by
  rintro D σ H ⟨p, xs, e5, hp, hz, ⟨⟨z, e4⟩, ⟨j, hj, e7⟩, a, ns, e1, hS, hl⟩, k⟩
  refine ⟨_, e4, _, e7, _, _, rfl, rfl, .inl ⟨by decide, by decide⟩, _, _, rfl, rfl, _, 1009, 2, rfl, by decide, by decide, fun i _ _ => ⟨rfl, _, rfl, ite2 (fun _ => ?_) (fun _ => ?_)⟩⟩
  · obtain ⟨e, he⟩ := three_at hj 0 (-1) 1000000007
    refine ⟨_, e5, .inl ⟨rfl, _, SqL.of hp⟩, _, e1, a, ns, rfl, hS, hl, fun y H1 s1 => ⟨_, rfl, line_le (by show 3 ≤ 16000000; decide), fun l hl1 => ⟨_, e7, l, _, _, _, rfl, rfl, SqL.of upd_same, he, _, _, rfl, rfl, p, xs, _, rfl, rfl, same_new hl1 _ _ _ (s1 _ _ hp), line_lt (by omega), ?_⟩⟩⟩
    exact k _ _ (.inr ⟨_, ⟨_, rfl⟩, rfl⟩) upd_same (fun b o hb e => by rw [upd_ne hb]; exact same_new hl1 _ _ _ (s1 _ _ e))
  · exact k H xs (.inl rfl) hp (fun b o _ e => e)
theorem wk_door : ∀ D σ H, tMay 6 (fun σ H => (∃ z : Int, σ[4]? = some (some (.int z))) ∧ ∃ j : Int, σ[8]? = some (some (.int j))) (fun σ y => σ[8]? = some (some y)) D σ H →
    tIfS (tTest (tOp rEq (tCall spDraw [] E0 (tCons (tOp (rI0 fun i j => .int (i + j)) (tVar 4) (tOp (rI CMul fun i j => .int (i * j)) (tC (.int 104729)) (tVar 8))) (tCons (tC (.int 1013)) (tCons (tC (.int 3)) tNil)))) (tC (.int 1))))
      (tDrop (tBM K "list" rAppend (tVar 6) (tCons (tVar 8) tNil))) tNext D σ H := by
  rintro D σ H ⟨p, xs, e6, hp, hz, ⟨⟨z, e4⟩, j, e8⟩, k⟩
  refine ⟨_, e4, _, e8, _, _, rfl, rfl, .inl ⟨by decide, by decide⟩, _, _, rfl, rfl, _, 1013, 3, rfl, by decide, by decide, fun i _ _ => ⟨rfl, _, rfl, ite2 (fun _ => ?_) (fun _ => ?_)⟩⟩
  · refine ⟨_, e6, .inl ⟨rfl, _, SqL.of hp⟩, _, e8, p, xs, _, rfl, rfl, hp, line_lt (by omega), ?_⟩
    exact k _ _ (.inr ⟨_, e8, rfl⟩) upd_same (fun b o hb e => by rw [upd_ne hb]; exact e)
  · exact k H xs (.inl rfl) hp (fun b o _ e => e)
def tNone : TS := fun D σ H => ∃ (p : Addr) (ds : List Int) (z n : Int), σ[6]? = some (some (.ref p)) ∧ H p = some (.lst (ds.map V.int)) ∧ σ[4]? = some (some (.int z)) ∧ σ[0]? = some (some (.int n)) ∧ 0 < n ∧
  ∀ (H2 : Hp) (es : List Int), ((es = ds ∧ ds ≠ []) ∨ ∃ y : Int, 0 ≤ y ∧ y < n ∧ es = [y]) → H2 p = some (.lst (es.map V.int)) → (∀ b o, b ≠ p → H b = some o → H2 b = some o) → D.nx σ H2
theorem wk_none : ∀ D σ H, tNone D σ H → tIfS (tTest (tOp (rNil false) (tVar 6) (tLst tNil))) (tDrop (tBM K "list" rAppend (tVar 6) (tCons (tCall spDraw [] E0 (tCons (tVar 4) (tCons (tC (.int 1019)) (tCons (tVar 0) tNil)))) tNil))) tNext D σ H := by
  rintro D σ H ⟨p, ds, z, n, e6, hp, e4, e0, hn, k⟩
  refine ⟨_, e6, line0, fun l hl => ⟨p, l, _, rfl, rfl, same_new hl _ _ _ hp, upd_same, _, rfl, ?_⟩⟩
  have s1 := same_new hl (.lst [])
  generalize upd H l (.lst []) = H1 at s1
  cases ds with
  | nil =>
    refine iteT ?_
    refine ⟨_, e6, .inl ⟨rfl, _, SqL.of (s1 _ _ hp)⟩, _, e4, _, e0, z, 1019, n, rfl, by decide, hn, fun y h0 h1 => ⟨p, _, _, rfl, rfl, s1 _ _ hp, line_lt (by show 0 ≤ 16000000; decide), ?_⟩⟩
    exact k _ [y] (.inr ⟨y, h0, h1, rfl⟩) upd_same (fun b o hb e => by rw [upd_ne hb]; exact s1 _ _ e)
  | cons x r =>
    refine iteF ?_
    exact k H1 (x :: r) (.inl ⟨rfl, by simp⟩) (s1 _ _ hp) (fun b o _ e => s1 _ _ e)
seal L2.PSs L2.PS L2.PE L2.PA L2.PT L2.PG L2.PF L2.PI
theorem ok_world_of {f g h j l : Addr} {fd gd hd' jd ld : FuncData} (F : Fun K "_law_world_of" "_law_world_of" sd_world_of f fd) (B : Blt mg) (G_at : FnOk P w K mg base CX0 1 g gd ["_law_script", "_law_k"] (spAt K)) (M_at : MG K mg "_law_at" ["_law_script", "_law_k"] g gd)
    (G_first_mark : FnOk P w K mg base CX0 2 h hd' ["_law_script"] (spMark K)) (M_first_mark : MG K mg "_law_first_mark" ["_law_script"] h hd') (G_draw : FnOk P w K mg base CX0 1 j jd ["_law_number", "_law_prime", "_law_many"] spDraw) (M_draw : MG K mg "_law_draw" ["_law_number", "_law_prime", "_law_many"] j jd)
    (G_line_of : FnOk P w K mg base CX0 3 l ld ["_law_count", "_law_script"] (spWorld K)) (M_line_of : MG K mg "_law_line_of" ["_law_count", "_law_script"] l ld) :
    FnOk P w K mg base CX0 4 f fd ["_law_count", "_law_script"] (spWorld K) := by
  refine F.ok sc_world_of (fun vs H Q E h => ?_) (fun cdv A outer s H vs Q E hr h => ?_)
  · obtain ⟨a, ns, n, rfl, _⟩ := h
    rfl
  obtain ⟨a, ns, n, rfl, hS, hl, h1, hn, k⟩ := h
  have hu := Nat.lt_of_succ_lt (hu_of hr)
  refine ⟨_, 
    (pss_cons (ps_if (pt_cmpR op_eq (pe_op op_mod (pe_call G_at (hr.mono (by decide)) rfl M_at.m M_at.k M_at.b .nil pass0 (pa_cons (pv 1) (pa_cons pe_int pa_nil))) pe_int) pe_int (nomark _))
    (pss_one (ps_ret (pe_call G_line_of (hr.mono (by decide)) rfl M_line_of.m M_line_of.k M_line_of.b .nil pass0 (pa_cons (pv 0) (pa_cons (pv 1) pa_nil)))))
    pss_nil)
    (pss_cons (ps_set (i := 2) sc_world_of.nd rfl (Or.inl rfl) (pe_lst pa_nil))
    (pss_cons (ps_for PassesOwn.never rfl (pi_range1 rfl B.range (pa_cons (pv 0) pa_nil)) (pg_name (i := 3) sc_world_of.nd rfl (Or.inl rfl))
    (pss_cons (ps_set (i := 4) sc_world_of.nd rfl (Or.inl rfl) (pe_op op_add (pe_call G_at (hr.mono (by decide)) rfl M_at.m M_at.k M_at.b .nil pass0 (pa_cons (pv 1) (pa_cons (pe_op op_add pe_int (pv 3)) pa_nil))) (pe_op op_mul pe_int (pv 3))))
    (pss_cons (ps_set (i := 5) sc_world_of.nd rfl (Or.inl rfl) (pe_lst pa_nil))
    (pss_cons (ps_set (i := 6) sc_world_of.nd rfl (Or.inl rfl) (pe_lst pa_nil))
    (pss_cons (ps_for PassesOwn.never rfl (pi_range1 rfl B.range (pa_cons pe_int pa_nil)) (pg_name (i := 7) sc_world_of.nd rfl (Or.inl rfl))
    (pss_one (ps_weak (ps_if (pt_cmpR op_eq (pe_call G_draw (hr.mono (by decide)) rfl M_draw.m M_draw.k M_draw.b .nil pass0 (pa_cons (pe_op op_add (pv 4) (pe_op op_mul pe_int (pv 7))) (pa_cons pe_int (pa_cons pe_int pa_nil)))) pe_int (nomark _))
    (pss_one (ps_expr (pe_bm PySem.F.plainAttrs_list PySem.F.slot_list_append PySem.F.type_list_append mt_append (pv 5) (pa_cons (pe_op op_add (pe_call G_first_mark (hr.mono (by decide)) rfl M_first_mark.m M_first_mark.k M_first_mark.b .nil pass0 (pa_cons (pv 1) pa_nil)) (pe_ix ix_list (pe_lst (pa_cons pe_int (pa_cons (pe_un un_neg pe_int) (pa_cons pe_int pa_nil)))) (pv 7) (fun _ _ => rfl))) pa_nil))))
    pss_nil) (wk_spot (K := K)))))
    (pss_cons (ps_for PassesOwn.never rfl (pi_range1 rfl B.range (pa_cons (pv 0) pa_nil)) (pg_name (i := 8) sc_world_of.nd rfl (Or.inl rfl))
    (pss_one (ps_weak (ps_if (pt_cmpR op_eq (pe_call G_draw (hr.mono (by decide)) rfl M_draw.m M_draw.k M_draw.b .nil pass0 (pa_cons (pe_op op_add (pv 4) (pe_op op_mul pe_int (pv 8))) (pa_cons pe_int (pa_cons pe_int pa_nil)))) pe_int (nomark _))
    (pss_one (ps_expr (pe_bm PySem.F.plainAttrs_list PySem.F.slot_list_append PySem.F.type_list_append mt_append (pv 6) (pa_cons (pv 8) pa_nil))))
    pss_nil) (wk_door (K := K)))))
    (pss_cons (ps_weak (ps_if (pt_cmpR (op_eqNil hu) (pv 6) (pe_lst pa_nil) (nomark _))
    (pss_one (ps_expr (pe_bm PySem.F.plainAttrs_list PySem.F.slot_list_append PySem.F.type_list_append mt_append (pv 6) (pa_cons (pe_call G_draw (hr.mono (by decide)) rfl M_draw.m M_draw.k M_draw.b .nil pass0 (pa_cons (pv 4) (pa_cons pe_int (pa_cons (pv 0) pa_nil)))) pa_nil))))
    pss_nil) (wk_none (K := K)))
    (pss_one (ps_expr (pe_bm PySem.F.plainAttrs_list PySem.F.slot_list_append PySem.F.type_list_append mt_append (pv 2) (pa_cons (pe_tup (pa_cons (pv 5) (pa_cons (pv 6) pa_nil))) pa_nil)))))))))))
    (pss_one (ps_ret (pv 2)))))), ?_⟩
  refine ⟨_, rfl, a, ns, 1, rfl, hS, hl, fun i0 H0 s0 => ⟨_, _, rfl, rfl, (by show (0 : Int) < 3; decide), rfl, _, rfl, ite2 (fun _ => ?_) (fun _ => ?_)⟩⟩
  · exact ⟨_, rfl, _, rfl, a, ns, n, rfl, s0.seq hS, hl, h1, hn, fun v W H2 s2 dv hv => k v W H2 (s0.trans s2) dv hv⟩
  refine ⟨line0, fun q hq => ?_⟩
  refine ⟨_, rfl, n, rfl, by omega, by omega, for_range (lo := 0) (n := n) (fun i σ' H' => ∃ (ts : World2) (ys : List V) (o3 o4 o5 o6 o7 o8 : Option V), σ' = [some (.int (n : Int)), some (.ref a), some (.ref q), o3, o4, o5, o6, o7, o8] ∧ Grow sdat H H' q ts ys ∧ ts.length = i ∧ ∀ t ∈ ts, StOk n 100 t)
    ⟨[], [], none, none, none, none, none, none, rfl, Grow.from s0 hq, rfl, (fun _ h => nomatch h)⟩ ?_ ?_⟩
  · rintro i σ' H1 hi ⟨ts, ys, o3, o4, o5, o6, o7, o8, rfl, gr, et, oks⟩
    refine ⟨_, rfl, _, rfl, _, _, rfl, rfl, a, ns, _, rfl, gr.same.seq hS, hl, fun z H2 s2 => ⟨_, rfl, _, _, rfl, rfl, .inl ⟨by decide, by decide⟩, _, _, rfl, rfl, ?_⟩⟩
    have g2 := gr.keep s2
    have ly := g2.len
    refine ⟨line0, fun p hp => ⟨line0, fun r hr1 => ?_⟩⟩
    have npr : p ≠ r := ne_of_none upd_same hr1
    have hr0 : H2 r = none := (same_new hp _).free hr1
    refine ⟨3, rfl, by decide, by decide, for_range (lo := 0) (n := 3) (fun j σ' H' => ∃ (ms : List Int) (o7 : Option V), σ' = [some (.int (n : Int)), some (.ref a), some (.ref q), some (.int (0 + (i : Int))), some (.int (z + 7919 * (0 + (i : Int)))), some (.ref p), some (.ref r), o7, o8] ∧ Same H2 H' ∧ H' p = some (.lst (ms.map V.int)) ∧ H' r = some (.lst []) ∧ ms.length ≤ j)
      ⟨[], o7, rfl, (same_new hp _).trans (same_new hr1 _), by rw [upd_ne npr, upd_same]; rfl, upd_same, Nat.le_refl _⟩ ?_ ?_⟩
    · rintro j' σ' H3 hj ⟨ms, o7, rfl, s3, hp3, hr3, lm⟩
      refine ⟨p, _, rfl, hp3, by rw [List.length_map]; omega, ⟨⟨_, rfl⟩, ⟨j', hj, rfl⟩, a, ns, rfl, (g2.same.trans s3).seq hS, hl⟩, fun H4 es hes hp4 k4 => ?_⟩
      have s4 : Same H2 H4 := fun b o e => k4 b o (ne_of_none e hp) (s3 _ _ e)
      have hr4 := k4 r _ npr.symm hr3
      rcases hes with rfl | ⟨_, ⟨y, rfl⟩, rfl⟩
      · exact ⟨ms, _, rfl, s4, hp4, hr4, by omega⟩
      · exact ⟨ms ++ [y], _, rfl, s4, by rw [hp4, List.map_append]; rfl, hr4, by rw [List.length_append]; show ms.length + 1 ≤ j' + 1; omega⟩
    rintro σ' H3 ⟨ms, o7, rfl, s3, hp3, hr3, lm⟩
    refine ⟨_, rfl, n, rfl, by omega, by omega, for_range (lo := 0) (n := n) (fun j σ' H' => ∃ (ds : List Int) (o8 : Option V), σ' = [some (.int (n : Int)), some (.ref a), some (.ref q), some (.int (0 + (i : Int))), some (.int (z + 7919 * (0 + (i : Int)))), some (.ref p), some (.ref r), o7, o8] ∧ Same H2 H' ∧ H' p = some (.lst (ms.map V.int)) ∧ H' r = some (.lst (ds.map V.int)) ∧ ds.length ≤ j ∧ ∀ d ∈ ds, 0 ≤ d ∧ d < (n : Int))
      ⟨[], _, rfl, s3, hp3, hr3, Nat.le_refl _, (fun _ h => nomatch h)⟩ ?_ ?_⟩
    · rintro j' σ' H4 hj ⟨ds, o8, rfl, s4, hp4, hr4, ld', hds⟩
      refine ⟨r, _, rfl, hr4, by rw [List.length_map]; omega, ⟨⟨_, rfl⟩, _, rfl⟩, fun H5 es hes hr5 k5 => ?_⟩
      have s5 : Same H2 H5 := fun b o e => k5 b o (ne_of_none e hr0) (s4 _ _ e)
      have hp5 := k5 p _ npr hp4
      rcases hes with rfl | ⟨y, ey, rfl⟩
      · exact ⟨ds, _, rfl, s5, hp5, hr5, by omega, hds⟩
      · have ey : some (some (V.int (0 + (j' : Int)))) = some (some y) := ey
        cases ey
        refine ⟨ds ++ [0 + (j' : Int)], _, rfl, s5, hp5, by rw [hr5, List.map_append]; rfl, by rw [List.length_append]; show ds.length + 1 ≤ j' + 1; omega, fun d hd => ?_⟩
        rcases List.mem_append.mp hd with hd | hd
        · exact hds d hd
        · rw [List.mem_singleton] at hd
          omega
    rintro σ' H4 ⟨ds, o8, rfl, s4, hp4, hr4, ld', hds⟩
    refine ⟨r, ds, _, n, rfl, hr4, rfl, rfl, by omega, fun H5 es hes hr5 k5 => ?_⟩
    have s5 : Same H2 H5 := fun b o e => k5 b o (ne_of_none e hr0) (s4 _ _ e)
    have hp5 := k5 p _ npr hp4
    have sok : StOk n 100 (ms, es) := by
      rcases hes with ⟨rfl, ne⟩ | ⟨y, y0, y1, rfl⟩
      · exact ⟨ne, hds, by show ms.length ≤ 100; omega, by show es.length ≤ 100; omega⟩
      · refine ⟨by simp, fun d hd => ?_, by show ms.length ≤ 100; omega, by show 1 ≤ 100; decide⟩
        have hd : d ∈ [y] := hd
        rw [List.mem_singleton] at hd
        rw [hd]
        exact ⟨y0, y1⟩
    have g5 := g2.keep s5
    refine ⟨_, rfl, .inl ⟨rfl, _, SqL.of g5.at_⟩, _, rfl, _, rfl, line_le (by show 2 ≤ 16000000; decide), fun t ht => ?_⟩
    have s6 := same_new ht (.tup [V.ref p, V.ref r])
    have g6 := g5.keep s6
    have nt : t ≠ q := fun z => by rw [z, g5.at_] at ht; cases ht
    have np : p ≠ q := fun z => by rw [z, g2.at_] at hp; cases hp
    have nr : r ≠ q := fun z => by rw [z, g2.at_] at hr0; cases hr0
    refine ⟨q, _, _, rfl, rfl, g6.at_, line_lt (by omega), ?_⟩
    exact ⟨ts ++ [(ms, es)], _, _, _, _, _, _, _, rfl, g6.push (sdat_mk (by rw [del_ne nt]; exact upd_same) (by rw [del_ne np]; exact s6 _ _ hp5) (by rw [del_ne nr]; exact s6 _ _ hr5)), by rw [List.length_append, et]; rfl, ok_snoc oks sok⟩
  · rintro σ' H1 ⟨ts, ys, o3, o4, o5, o6, o7, o8, rfl, gr, et, oks⟩
    exact ⟨_, rfl, k _ ts _ gr.same gr.done (valid_of et oks)⟩
end
end Ws

namespace Ws
open PySem L2
section
variable {P : Program} {w : World} {K : PySem.W.Frag} {mg : Str → Option Value} {base : Heap}
seal L2.PSs L2.PS L2.PE L2.PA L2.PT L2.PG L2.PF L2.PI
/-- a copy of a world -/
def spCopy : Sp := fun vs H Q _ => ∃ (a : Addr) (W : World2), vs = [.ref a] ∧ DAt H (.ref a) (wdat W) ∧ W.length ≤ 1000 ∧ ∀ (v : V) (H' : Hp), Same H H' → DAt H' v (wdat W) → Q v H'
theorem ok_copy_of {f : Addr} {fd : FuncData} (F : Fun K "_law_copy_of" "_law_copy_of" sd_copy_of f fd) (B : Blt mg) : FnOk P w K mg base CX0 1 f fd ["_law_world"] spCopy := by
  refine F.ok sc_copy_of (fun vs H Q E h => ?_) (fun cdv A outer s H vs Q E hr h => ?_)
  · obtain ⟨a, W, rfl, _⟩ := h
    rfl
  obtain ⟨a, W, rfl, ha, hl, k⟩ := h
  obtain ⟨a', vs, e, hH, hv⟩ := DAt.lst_inv ha
  cases e
  have lv := hv.length
  rw [List.length_map] at lv
  refine ⟨_, 
    (pss_one (ps_ret (pe_comp rfl cs_copy_of_0 rfl rfl (pi_list (pv 0)) (fun _ _ _ _ _ => pg_name (i := 0) cs_copy_of_0.nd rfl (Or.inl rfl)) (fun _ _ _ _ _ => pf_nil) (fun _ _ _ _ _ => (pe_tup (pa_cons (pe_callTy ccall_list rfl B.list bList (pa_cons (pe_ix cix_tup (pv 0) pe_int (fun _ _ => rfl)) pa_nil)) (pa_cons (pe_callTy ccall_list rfl B.list bList (pa_cons (pe_ix cix_tup (pv 0) pe_int (fun _ _ => rfl)) pa_nil)) pa_nil))))))), ?_⟩
  refine ⟨_, rfl, a, rfl, ⟨_, SqL.of hH⟩, fun D hD => ?_⟩
  refine comp_over (xs := vs) (fun i ys τ H' => Grow sdat H H' D (W.take i) ys ∧ ∃ v, τ = [v]) ⟨Grow.start hD, none, rfl⟩ (fun i ys τ H' _ h => SqL.of (h.1.same _ _ hH)) ?_ ?_
  · rintro i y ys τ H1 hy ⟨gr, v, rfl⟩
    have hi : i < W.length := by rw [← lv]; exact (List.getElem?_eq_some_iff.mp hy).1
    obtain ⟨u, hu, du⟩ := hv.nth hi
    rw [hy] at hu
    cases hu
    obtain ⟨t, m, d, rfl, et, em, ed⟩ := sdat_inv du
    have sm := gr.same
    have lg := gr.len
    rw [List.length_take] at lg
    refine ⟨_, rfl, t, _, _, _, rfl, rfl, SqT.of (sm _ _ et), at0, m, _, rfl, .inl (SqL.of (sm _ _ em)), fun m2 hm2 => ?_⟩
    have s2 := same_new hm2 (.lst (W[i].1.map V.int))
    refine ⟨_, rfl, t, _, _, _, rfl, rfl, SqT.of (s2 _ _ (sm _ _ et)), at1, d, _, rfl, .inl (SqL.of (s2 _ _ (sm _ _ ed))), fun d2 hd2 => ?_⟩
    have s3 := same_new hd2 (.lst (W[i].2.map V.int))
    refine ⟨line_le (by show 2 ≤ 16000000; decide), fun t2 ht2 => ?_⟩
    have s4 := same_new ht2 (.tup [V.ref m2, V.ref d2])
    have g2 := gr.keep (s2.trans (s3.trans s4))
    have nm : m2 ≠ D := fun z => by rw [z, gr.at_] at hm2; cases hm2
    have nd : d2 ≠ D := fun z => by rw [z, s2 _ _ gr.at_] at hd2; cases hd2
    have nt : t2 ≠ D := fun z => by rw [z, s3 _ _ (s2 _ _ gr.at_)] at ht2; cases ht2
    have e1 := (s3.trans s4) _ _ (upd_same : upd H1 m2 (.lst (W[i].1.map V.int)) m2 = _)
    have e2 := s4 _ _ (upd_same : upd (upd H1 m2 (.lst (W[i].1.map V.int))) d2 (.lst (W[i].2.map V.int)) d2 = _)
    refine ⟨g2.at_, line_lt (by omega), ?_, _, rfl⟩
    have g3 := g2.push (v := .ref t2) (t := W[i]) (sdat_mk (by rw [del_ne nt]; exact upd_same) (by rw [del_ne nm]; exact e1) (by rw [del_ne nd]; exact e2))
    have et : W.take (i + 1) = W.take i ++ [W[i]] := by rw [List.take_add_one, List.getElem?_eq_getElem hi]; rfl
    rw [et]
    exact g3
  · rintro ys τ H1 ⟨gr, v, rfl⟩
    rw [lv, List.take_length] at gr
    exact k _ _ gr.same gr.done
end
end Ws

namespace Ws
open PySem L2
section
variable {P : Program} {w : World} {K : PySem.W.Frag} {mg : Str → Option Value} {base : Heap}
seal L2.PSs L2.PS L2.PE L2.PA L2.PT L2.PG L2.PF L2.PI
def spAre : Sp := fun vs H Q _ => ∃ (a b : Addr) (L : List Lb) (W : World2), vs = [.ref a, .ref b] ∧ DAt H (.ref a) (lsdat L) ∧ DAt H (.ref b) (wdat W) ∧ L.length ≤ 1000000 ∧ Q (.bl (arB L W)) H
theorem ok_are_labels {f g : Addr} {fd gd : FuncData} (F : Fun K "_law_are_labels" "_law_are_labels" sd_are_labels f fd) (B : Blt mg) (G_whole : FnOk P w K mg base CX0 1 g gd ["_law_found"] spWhole) (M_whole : MG K mg "_law_whole" ["_law_found"] g gd) :
    FnOk P w K mg base CX0 2 f fd ["_law_found", "_law_world"] spAre := by
  refine F.ok sc_are_labels (fun vs H Q E h => ?_) (fun cdv A outer s H vs Q E hr h => ?_)
  · obtain ⟨a, b, L, W, rfl, _⟩ := h
    rfl
  obtain ⟨a, b, L, W, rfl, ha, hb, hz, q⟩ := h
  obtain ⟨a', us, e, hA, hu⟩ := DAt.lst_inv ha
  cases e
  obtain ⟨b', ws, e, hB, hw⟩ := DAt.lst_inv hb
  cases e
  have lu := hu.length
  have lw := hw.length
  rw [List.length_map] at lu lw
  refine ⟨_, 
    (pss_cons (ps_if (PW.pt (pw_or (pt_not (pt_val (pe_callB call_is1 rfl B.isinst bIs (pa_cons (pv 0) (pa_cons (pe_bltn (v := .ty "list") rfl B.list bList rfl) pa_nil))))) (pw_or1 (pt_cmpR op_ne (pe_callB call_len_seq rfl B.len PySem.boot_len (pa_cons (pv 0) pa_nil)) (pe_callB call_len_seq rfl B.len PySem.boot_len (pa_cons (pv 1) pa_nil)) (nomark _)))))
    (pss_one (ps_ret pe_bl))
    pss_nil)
    (pss_cons (ps_for PassesOwn.never rfl (pi_range1 rfl B.range (pa_cons (pe_callB call_len_seq rfl B.len PySem.boot_len (pa_cons (pv 0) pa_nil)) pa_nil)) (pg_name (i := 2) sc_are_labels.nd rfl (Or.inl rfl))
    (pss_cons (ps_set (i := 3) sc_are_labels.nd rfl (Or.inl rfl) (pe_ix ix_list (pv 0) (pv 2) (fun _ _ => rfl)))
    (pss_cons (ps_if (PW.pt (pw_or (pt_not (pt_val (pe_callB call_is1 rfl B.isinst bIs (pa_cons (pv 3) (pa_cons (pe_bltn (v := .ty "tuple") rfl B.tuple bTuple rfl) pa_nil))))) (pw_or (pt_cmpR op_ne (pe_callB call_len_seq rfl B.len PySem.boot_len (pa_cons (pv 3) pa_nil)) pe_int (nomark _)) (pw_or1 (pt_not (pt_val (pe_callB call_is1 rfl B.isinst bIs (pa_cons (pe_ix ix_tup (pv 3) pe_int (fun _ _ => rfl)) (pa_cons (pe_bltn (v := .ty "bool") rfl B.bool bBool rfl) pa_nil)))))))))
    (pss_one (ps_ret pe_bl))
    pss_nil)
    (pss_cons (ps_if (PW.pt (pw_and (pt_cmp (pc_notN (pe_ix ix_tup (pv 3) pe_int (fun _ _ => rfl)))) (pw_and1 (PW.pt (pw_or (pt_not (pt_val (pe_call G_whole (hr.mono (by decide)) rfl M_whole.m M_whole.k M_whole.b .nil pass0 (pa_cons (pe_ix ix_tup (pv 3) pe_int (fun _ _ => rfl)) pa_nil)))) (pw_or1 (pt_cmpR op_lt (pe_ix ix_tup (pv 3) pe_int (fun _ _ => rfl)) pe_int (nomark _))))))))
    (pss_one (ps_ret pe_bl))
    pss_nil)
    (pss_one (ps_if (pt_cmp (pc_notN (pe_ix ix_tup (pv 3) pe_int (fun _ _ => rfl))))
    (pss_one (ps_if (PW.pt (pw_or (pt_not (pt_val (pe_call G_whole (hr.mono (by decide)) rfl M_whole.m M_whole.k M_whole.b .nil pass0 (pa_cons (pe_ix ix_tup (pv 3) pe_int (fun _ _ => rfl)) pa_nil)))) (pw_or1 (pt_cmpR op_notIn_seq (pe_ix ix_tup (pv 3) pe_int (fun _ _ => rfl)) (pe_ix ix_tup (pe_ix ix_list (pv 1) (pv 2) (fun _ _ => rfl)) pe_int (fun _ _ => rfl)) rfl))))
    (pss_one (ps_ret pe_bl))
    pss_nil))
    pss_nil))))))
    (pss_one (ps_ret pe_bl)))), ?_⟩
  refine ⟨_, rfl, _, _, _, _, rfl, .lst hA, o_ll, _, rfl, iteF ?_⟩
  refine ⟨_, rfl, a, _, rfl, .inl (SqL.of hA), _, rfl, b, _, rfl, .inl (SqL.of hB), rfl, _, rfl, ite2 (fun c => ?_) (fun c => ?_)⟩
  · have c : (!decide (V.int (us.length : Int) = V.int (ws.length : Int))) = true := c
    have c : ¬ (V.int (us.length : Int) = V.int (ws.length : Int)) := by simpa using c
    have e : arB L W = false := by
      unfold arB
      rw [decide_eq_false (fun z => c (congrArg V.int (by omega))), Bool.false_and]
    rw [e] at q
    exact q
  have c : ¬ (!decide (V.int (us.length : Int) = V.int (ws.length : Int))) = true := c
  have c : V.int (us.length : Int) = V.int (ws.length : Int) := by simpa using c
  have c := V.int.inj c
  have lLW : L.length = W.length := by omega
  refine ⟨_, rfl, a, _, rfl, .inl (SqL.of hA), _, rfl, by omega, by omega, for_range (lo := 0) (n := us.length) (fun i σ' H' => (∃ o2 o3, σ' = [some (.ref a), some (.ref b), o2, o3]) ∧ H' = H ∧ ∀ j, j < i → lbOk (L.getD j default) (W.getD j default).2 = true)
    ⟨⟨none, none, rfl⟩, rfl, fun j hj => absurd hj (Nat.not_lt_zero _)⟩ ?_ ?_⟩
  · rintro i σ' H' hi ⟨⟨o2, o3, rfl⟩, rfl, hok⟩
    have hiL : i < L.length := by omega
    have hiW : i < W.length := by omega
    obtain ⟨u, eu, du⟩ := hu.nth hiL
    obtain ⟨t, rfl, et⟩ := lbdat_inv du
    obtain ⟨u2, eu2, du2⟩ := hw.nth hiW
    obtain ⟨t2, m2, d2, rfl, et2, em2, ed2⟩ := sdat_inv du2
    have no : lbOk L[i] W[i].2 = false → Q (.bl false) H' := fun h => by
      have z : arB L W = false := by
        unfold arB
        rw [Bool.and_eq_false_iff]
        refine .inr (all_false (i := i) (x := i) (by simp [hiL]) ?_)
        rw [getD_eq hiL, getD_eq hiW]
        exact h
      rw [z] at q
      exact q
    have yes : lbOk L[i] W[i].2 = true → ∀ j, j < i + 1 → lbOk (L.getD j default) (W.getD j default).2 = true := fun h j hj => by
      by_cases e : j = i
      · subst e
        rw [getD_eq hiL, getD_eq hiW]
        exact h
      · exact hok j (by omega)
    generalize L[i] = l at *
    obtain ⟨lt, ln, ld⟩ := l
    refine ⟨_, rfl, _, rfl, a, us, _, _, rfl, rfl, SqL.of hA, atI_of eu (by omega), ?_⟩
    refine ⟨_, rfl, _, _, _, _, rfl, .tup et, o_tt, _, rfl, iteF ?_⟩
    refine ⟨_, rfl, t, _, rfl, .inr (SqT.of et), rfl, _, rfl, iteF ?_⟩
    refine ⟨_, rfl, t, _, _, _, rfl, rfl, SqT.of et, at0, _, _, _, _, rfl, .bl lt, o_bb, _, rfl, iteF ?_⟩
    -- the number
    have door : numOk ln = true → (lbOk (lt, ln, ld) W[i].2 = true ↔ doorOk W[i].2 ld = true) := fun h => by
      show (numOk ln && doorOk W[i].2 ld) = true ↔ _
      rw [h, Bool.true_and]
    cases ln with
    | none =>
      refine ⟨_, rfl, t, _, _, _, rfl, rfl, SqT.of et, at1, _, rfl, iteF ?a⟩
      have dr := door rfl
      cases ld with
      | none =>
        refine ⟨_, rfl, t, _, _, _, rfl, rfl, SqT.of et, at2, _, rfl, iteF ?_⟩
        exact ⟨⟨_, _, rfl⟩, rfl, yes (dr.mpr rfl)⟩
      | some d =>
        refine ⟨_, rfl, t, _, _, _, rfl, rfl, SqT.of et, at2, _, rfl, ite2 (fun _ => ?_) (fun c => absurd rfl c)⟩
        refine ⟨_, rfl, t, _, _, _, rfl, rfl, SqT.of et, at2, d, rfl, _, rfl, iteF ?_⟩
        refine ⟨_, rfl, t, _, _, _, rfl, rfl, SqT.of et, at2, _, rfl, _, rfl, b, ws, _, _, rfl, rfl, SqL.of hB, atI_of eu2 (by omega), t2, _, _, _, rfl, rfl, SqT.of et2, at1, d2, _, rfl, .inl (SqL.of ed2), rfl, flat_ints, _, rfl, ite2 (fun c => ?_) (fun c => ?_)⟩
        · have c : (!inV (V.int d) (W[i].2.map V.int)) = true := c
          rw [inV_int] at c
          refine no ?_
          cases hl : lbOk (lt, none, some d) W[i].2 with
          | false => rfl
          | true =>
            have := dr.mp hl
            rw [show decide (d ∈ W[i].2) = true from this] at c
            cases c
        · have c : ¬ (!inV (V.int d) (W[i].2.map V.int)) = true := c
          rw [inV_int] at c
          refine ⟨⟨_, _, rfl⟩, rfl, yes (dr.mpr ?_)⟩
          show decide (d ∈ W[i].2) = true
          cases hd : decide (d ∈ W[i].2) with
          | true => rfl
          | false => rw [hd] at c; exact absurd rfl c
    | some x =>
      refine ⟨_, rfl, t, _, _, _, rfl, rfl, SqT.of et, at1, _, rfl, ite2 (fun _ => ?_) (fun c => absurd rfl c)⟩
      refine ⟨_, rfl, t, _, _, _, rfl, rfl, SqT.of et, at1, x, rfl, _, rfl, iteF ?_⟩
      refine ⟨_, rfl, t, _, _, _, rfl, rfl, SqT.of et, at1, _, _, rfl, rfl, _, rfl, ite2 (fun c => no ?_) (fun c => ?_)⟩
      · have c : x < 0 := of_decide_eq_true c
        show (decide (0 ≤ x) && _) = false
        rw [decide_eq_false (by omega), Bool.false_and]
      have c : ¬ x < 0 := fun z => c (decide_eq_true z)
      have dr := door (by show decide (0 ≤ x) = true; exact decide_eq_true (by omega))
      cases ld with
      | none =>
        refine ⟨_, rfl, t, _, _, _, rfl, rfl, SqT.of et, at2, _, rfl, iteF ?_⟩
        exact ⟨⟨_, _, rfl⟩, rfl, yes (dr.mpr rfl)⟩
      | some d =>
        refine ⟨_, rfl, t, _, _, _, rfl, rfl, SqT.of et, at2, _, rfl, ite2 (fun _ => ?_) (fun c => absurd rfl c)⟩
        refine ⟨_, rfl, t, _, _, _, rfl, rfl, SqT.of et, at2, d, rfl, _, rfl, iteF ?_⟩
        refine ⟨_, rfl, t, _, _, _, rfl, rfl, SqT.of et, at2, _, rfl, _, rfl, b, ws, _, _, rfl, rfl, SqL.of hB, atI_of eu2 (by omega), t2, _, _, _, rfl, rfl, SqT.of et2, at1, d2, _, rfl, .inl (SqL.of ed2), rfl, flat_ints, _, rfl, ite2 (fun c => ?_) (fun c => ?_)⟩
        · have c : (!inV (V.int d) (W[i].2.map V.int)) = true := c
          rw [inV_int] at c
          refine no ?_
          cases hl : lbOk (lt, some x, some d) W[i].2 with
          | false => rfl
          | true =>
            have := dr.mp hl
            rw [show decide (d ∈ W[i].2) = true from this] at c
            cases c
        · have c : ¬ (!inV (V.int d) (W[i].2.map V.int)) = true := c
          rw [inV_int] at c
          refine ⟨⟨_, _, rfl⟩, rfl, yes (dr.mpr ?_)⟩
          show decide (d ∈ W[i].2) = true
          cases hd : decide (d ∈ W[i].2) with
          | true => rfl
          | false => rw [hd] at c; exact absurd rfl c
  · rintro σ' H' ⟨⟨o2, o3, rfl⟩, rfl, hok⟩
    have e : arB L W = true := by
      unfold arB
      rw [decide_eq_true lLW, Bool.true_and, List.all_eq_true]
      exact fun k hk => hok k (by have := List.mem_range.mp hk; omega)
    rw [e] at q
    exact q
end
end Ws

namespace Ws
open PySem L2
section
variable {P : Program} {w : World} {K : PySem.W.Frag} {mg : Str → Option Value} {base : Heap}
seal L2.PSs L2.PS L2.PE L2.PA L2.PT L2.PG L2.PF L2.PI
def spLow : Sp := fun vs H Q _ => ∃ (a : Addr) (E : List Lb) (t : Bool) (m : Int), vs = [.ref a, .bl t, .int m] ∧ DAt H (.ref a) (lsdat E) ∧ Q (.bl (lowB E t m)) H
theorem ok_lower {f : Addr} {fd : FuncData} (F : Fun K "_law_lower" "_law_lower" sd_lower f fd) : FnOk P w K mg base CX0 1 f fd ["_law_ends", "_law_truth", "_law_number"] spLow := by
  refine F.ok sc_lower (fun vs H Q E h => ?_) (fun cdv A outer s H vs Q E hr h => ?_)
  · obtain ⟨a, L, t, m, rfl, _⟩ := h
    rfl
  obtain ⟨a, L, t, m, rfl, ha, q⟩ := h
  obtain ⟨a', vs, e, hH, hv⟩ := DAt.lst_inv ha
  cases e
  have lv := hv.length
  rw [List.length_map] at lv
  refine ⟨_, 
    (pss_cons (ps_for PassesOwn.never rfl (pi_list (pv 0)) (pg_name (i := 3) sc_lower.nd rfl (Or.inl rfl))
    (pss_one (ps_if (PW.pt (pw_or (pt_cmpR op_ne (pe_ix ix_tup (pv 3) pe_int (fun _ _ => rfl)) (pv 1) (nomark _)) (pw_or (pt_cmp (pc_isN (pe_ix ix_tup (pv 3) pe_int (fun _ _ => rfl)))) (pw_or1 (pt_cmpR op_ge (pe_ix ix_tup (pv 3) pe_int (fun _ _ => rfl)) (pv 2) (nomark _))))))
    (pss_one (ps_ret pe_bl))
    pss_nil)))
    (pss_one (ps_ret pe_bl))), ?_⟩
  refine ⟨_, rfl, a, rfl, ⟨_, SqL.of hH⟩, for_list (K := K) (a := a) (xs := vs) (fun i σ' H' => (∃ o, σ' = [some (.ref a), some (.bl t), some (.int m), o]) ∧ H' = H ∧ lowB (L.take i) t m = true)
    ⟨⟨none, rfl⟩, rfl, rfl⟩ (fun i σ' H' _ h => by rw [h.2.1]; exact SqL.of hH) ?_ ?_⟩
  · rintro i y σ' H' hy ⟨⟨o, rfl⟩, rfl, hlow⟩
    have hi : i < L.length := by rw [← lv]; exact (List.getElem?_eq_some_iff.mp hy).1
    obtain ⟨u, hu, du⟩ := hv.nth hi
    rw [hy] at hu
    cases hu
    obtain ⟨b, rfl, eb⟩ := lbdat_inv du
    have eL : L[i]? = some L[i] := List.getElem?_eq_getElem hi
    have no : ∀ (h : (L[i].1 == t && match L[i].2.1 with | none => false | some x => decide (x < m)) = false), Q (.bl false) H' := fun h => by
      have z : lowB L t m = false := all_false eL h
      rw [z] at q
      exact q
    generalize hl : L[i] = l at *
    obtain ⟨lt, ln, ld⟩ := l
    refine ⟨_, rfl, b, _, _, _, rfl, rfl, SqT.of eb, at0, _, rfl, rfl, _, rfl, ite2 (fun c => ?_) (fun c => ?_)⟩
    · refine iteT (no ?_)
      have c : (!decide (V.bl lt = V.bl t)) = true := c
      have c : ¬ (V.bl lt = V.bl t) := by simpa using c
      have : (lt == t) = false := by simpa using fun z => c (congrArg V.bl z)
      show ((lt == t) && _) = false
      rw [this, Bool.false_and]
    have c : ¬ (!decide (V.bl lt = V.bl t)) = true := c
    have c : V.bl lt = V.bl t := by simpa using c
    have c : lt = t := V.bl.inj c
    subst c
    cases ln with
    | none =>
      refine ⟨_, rfl, b, _, _, _, rfl, rfl, SqT.of eb, at1, _, rfl, itD rfl ?_⟩
      refine iteT (no ?_)
      show ((lt == lt) && false) = false
      rw [Bool.and_false]
    | some x =>
      refine ⟨_, rfl, b, _, _, _, rfl, rfl, SqT.of eb, at1, _, rfl, itN (by intro z; cases z) ?_⟩
      refine ⟨_, rfl, b, _, _, _, rfl, rfl, SqT.of eb, at1, _, rfl, _, _, rfl, rfl, _, rfl, ite2 (fun c => no ?_) (fun c => ?_)⟩
      · have c : m ≤ x := of_decide_eq_true c
        show ((lt == lt) && decide (x < m)) = false
        rw [decide_eq_false (by omega), Bool.and_false]
      · have c : ¬ m ≤ x := fun z => c (decide_eq_true z)
        refine ⟨⟨_, rfl⟩, rfl, all_take_succ eL hlow ?_⟩
        show ((lt == lt) && decide (x < m)) = true
        rw [decide_eq_true (by omega)]
        simp
  · rintro σ' H' ⟨⟨o, rfl⟩, rfl, hlow⟩
    rw [lv, List.take_length] at hlow
    rw [hlow] at q
    exact q
end
end Ws

namespace Ws
open PySem L2
section
variable {P : Program} {w : World} {K : PySem.W.Frag} {mg : Str → Option Value} {base : Heap}
seal L2.PSs L2.PS L2.PE L2.PA L2.PT L2.PG L2.PF L2.PI
def spSa : Sp := fun vs H Q _ => ∃ (a c d : Addr) (k n : Nat) (here : List Bool) (L : List Lb) (doors : List Int), vs = [.ref a, .ref c, .int (k : Int), .ref d] ∧ H a = some (.lst (here.map V.bl)) ∧ here.length = n ∧ RPre H n c d L k doors ∧ ∀ H', Same H H' → Q (.bl (saR here L k doors)) H'
theorem ok_some_again_right {f g : Addr} {fd gd : FuncData} (F : Fun K "_law_some_again_right" "_law_some_again_right" sd_some_again_right f fd) (B : Blt mg) (G_lower : FnOk P w K mg base CX0 1 g gd ["_law_ends", "_law_truth", "_law_number"] spLow) (M_lower : MG K mg "_law_lower" ["_law_ends", "_law_truth", "_law_number"] g gd) :
    FnOk P w K mg base CX0 2 f fd ["_law_here", "_law_labels", "_law_k", "_law_doors"] spSa := by
  refine F.ok sc_some_again_right (fun vs H Q E h => ?_) (fun cdv A outer s H vs Q E hr h => ?_)
  · obtain ⟨a, c, d, k, n, here, L, doors, rfl, _⟩ := h
    rfl
  obtain ⟨a, c, d, k, n, here, L, doors, rfl, hA, la, R, q⟩ := h
  have hk := R.kn
  refine ⟨_, 
    (pss_cons (ps_asg (pe_ix ix_list (pv 1) (pv 2) (fun _ _ => rfl)) (pg_tup (n := 3) rfl (pgs_cons (pg_name (i := 4) sc_some_again_right.nd rfl (Or.inl rfl)) (pgs_cons (pg_name (i := 5) sc_some_again_right.nd rfl (Or.inl rfl)) (pgs_cons (pg_name (i := 6) sc_some_again_right.nd rfl (Or.inl rfl)) pgs_nil)))))
    (pss_cons (ps_comp (i := 7) sc_some_again_right.nd rfl rfl rfl cs_some_again_right_0 rfl rfl (pi_list (pv 3)) (fun _ _ _ _ _ => pg_name (i := 0) cs_some_again_right_0.nd rfl (Or.inl rfl)) (fun _ _ _ _ _ => pf_nil) (fun _ _ _ _ _ => (pe_ix cix_list (pv 1) (pv 0) (fun _ _ => rfl))))
    (pss_cons (ps_if (pt_cmp (pc_isN (pv 5)))
    (pss_one (ps_ret pe_bl))
    pss_nil)
    (pss_cons (ps_if (pt_not (pt_val (pv 4)))
    (pss_one (ps_ret (pe_and (pe_cmp (pc_isN (pv 6))) (pe_one (pe_call G_lower (hr.mono (by decide)) rfl M_lower.m M_lower.k M_lower.b .nil pass0 (pa_cons (pv 7) (pa_cons pe_bl (pa_cons (pe_op op_sub (pe_op op_add (pv 5) pe_int) (pe_callTy call_int1 rfl B.int bInt (pa_cons (pe_ix ix_list (pv 0) (pv 2) (fun _ _ => rfl)) pa_nil))) pa_nil))))))))
    pss_nil)
    (pss_cons (ps_if (PW.pt (pw_or (pt_cmp (pc_isN (pv 6))) (pw_or1 (pt_not (pt_val (pe_ix ix_tup (pe_ix ix_list (pv 1) (pv 6) (fun _ _ => rfl)) pe_int (fun _ _ => rfl)))))))
    (pss_one (ps_ret pe_bl))
    pss_nil)
    (pss_cons (ps_if (pt_cmpR op_eq (pv 5) pe_int (nomark _))
    (pss_one (ps_ret (pe_ix ix_list (pv 0) (pv 2) (fun _ _ => rfl))))
    pss_nil)
    (pss_one (ps_ret (pe_cmpR op_eq (pe_ix ix_tup (pe_ix ix_list (pv 1) (pv 6) (fun _ _ => rfl)) pe_int (fun _ _ => rfl)) (pe_op op_sub (pv 5) pe_int) (nomark _)))))))))), ?_⟩
  obtain ⟨us, t, hC, e1, et⟩ := R.atK
  have rl := row_at (H := H) (a := a) (l := here) (k := k) (by omega)
  have own := R.own
  have fin : ∀ (x : Bool) (H' : Hp), Same H H' → x = saR here L k doors → Q (.bl x) H' := fun x H' s e => by rw [e]; exact q H' s
  unfold saR at fin
  generalize L.getD k default = l at fin et own
  obtain ⟨lt, ln, ld⟩ := l
  refine ⟨_, rfl, _, rfl, c, us, _, _, rfl, rfl, SqL.of hC, e1, t, _, rfl, SqT.of et, rfl, _, _, rfl, _, _, rfl, _, _, rfl, rfl, ?_⟩
  refine ⟨_, rfl, d, rfl, ⟨_, SqL.of R.drs⟩, fun D hD => ends_comp R hD fun H1 s1 dd => ?_⟩
  have R1 := R.keep s1
  have hA1 := s1 _ _ hA
  cases ln with
  | none => exact ⟨_, rfl, _, rfl, itD rfl (fin _ _ s1 (by cases lt <;> rfl))⟩
  | some x =>
    refine ⟨_, rfl, _, rfl, itN (by intro z; cases z) ?_⟩
    cases lt with
    | false =>
      refine ⟨_, rfl, _, rfl, iteT ?_⟩
      cases ld with
      | some e => exact ⟨_, rfl, _, rfl, iteF (fin _ _ s1 rfl)⟩
      | none =>
        refine ⟨_, rfl, _, rfl, iteT ?_⟩
        refine ⟨_, rfl, _, rfl, _, _, rfl, rfl, _, rfl, _, rfl, a, _, _, _, rfl, rfl, SqL.of hA1, rl, .inr ⟨_, rfl, _, _, rfl, rfl, D, _, false, _, rfl, dd, fin _ _ s1 rfl⟩⟩
    | true =>
      refine ⟨_, rfl, _, rfl, iteF ?_⟩
      cases ld with
      | none => exact ⟨_, rfl, _, rfl, itD rfl (iteT (fin _ _ s1 rfl))⟩
      | some e =>
        refine ⟨_, rfl, _, rfl, itN (by intro z; cases z) ?_⟩
        obtain ⟨p1, p2⟩ := own e rfl
        obtain ⟨us', a2, h1, h2, h3, _⟩ := R1.at_ p1 p2
        have fin : ∀ (b : Bool) (H' : Hp), Same H H' → b = (if !(lbAt L e).1 then false else if decide (x = 0) then here.getD k false else decide ((lbAt L e).2.1 = some (x - 1))) → Q (.bl b) H' := fin
        generalize lbAt L e = l2 at h3 fin
        obtain ⟨t2, n2, d2⟩ := l2
        refine ⟨_, rfl, _, rfl, c, us', _, _, rfl, rfl, SqL.of h1, h2, a2, _, _, _, rfl, rfl, SqT.of h3, at0, _, rfl, ?_⟩
        cases t2 with
        | false => exact ite2 (fun _ => fin _ _ s1 rfl) (fun z => absurd rfl z)
        | true =>
          refine ite2 (fun z => absurd z Bool.false_ne_true) (fun _ => ?_)
          have fin : ∀ (b : Bool) (H' : Hp), Same H H' → b = (if decide (x = 0) then here.getD k false else decide (n2 = some (x - 1))) → Q (.bl b) H' := fin
          refine ⟨_, rfl, rfl, _, rfl, itI (fun hx => ?_) (fun hx => ?_)⟩
          · rw [hx] at fin
            exact ⟨_, rfl, _, rfl, a, _, _, _, rfl, rfl, SqL.of hA1, rl, fin _ _ s1 rfl⟩
          · rw [hx] at fin
            exact ⟨_, rfl, _, rfl, c, us', _, _, rfl, rfl, SqL.of h1, h2, a2, _, _, _, rfl, rfl, SqT.of h3, at1, _, rfl, _, _, rfl, rfl, scal_ov, fin _ _ s1 dec_ov⟩
end
end Ws

namespace Ws
open PySem L2
section
variable {P : Program} {w : World} {K : PySem.W.Frag} {mg : Str → Option Value} {base : Heap}
seal L2.PSs L2.PS L2.PE L2.PA L2.PT L2.PG L2.PF L2.PI
/-- a row of truth values or two: some, one for each state -/
def spRows (K : PySem.W.Frag) : Sp := fun vs H Q _ => ∃ (c : Addr) (ns : List Int) (n : Nat), vs = [.ref c, .int (n : Int)] ∧ SqL K H c (ns.map V.int) ∧ ns.length ≤ 1000000 ∧ n ≤ 1000 ∧
  ∀ (v : V) (l r : List Bool) (H' : Hp), l.length = n → r.length = n → Same H H' → DAt H' v (.tup [dbools l, dbools r]) → Q v H'
theorem ok_truth_rows {f g : Addr} {fd gd : FuncData} (F : Fun K "_law_truth_rows" "_law_truth_rows" sd_truth_rows f fd) (B : Blt mg) (G_at : FnOk P w K mg base CX0 1 g gd ["_law_script", "_law_k"] (spAt K)) (M_at : MG K mg "_law_at" ["_law_script", "_law_k"] g gd) :
    FnOk P w K mg base CX0 2 f fd ["_law_cells", "_law_count"] (spRows K) := by
  refine F.ok sc_truth_rows (fun vs H Q E h => ?_) (fun cdv A outer s H vs Q E hr h => ?_)
  · obtain ⟨c, ns, n, rfl, _⟩ := h
    rfl
  obtain ⟨c, ns, n, rfl, hS, hl, hn, k⟩ := h
  refine ⟨_, 
    (pss_cons (ps_set (i := 2) sc_truth_rows.nd rfl (Or.inl rfl) (pe_lst pa_nil))
    (pss_cons (ps_set (i := 3) sc_truth_rows.nd rfl (Or.inl rfl) (pe_lst pa_nil))
    (pss_cons (ps_for PassesOwn.never rfl (pi_range1 rfl B.range (pa_cons (pv 1) pa_nil)) (pg_name (i := 4) sc_truth_rows.nd rfl (Or.inl rfl))
    (pss_cons (ps_set (i := 5) sc_truth_rows.nd rfl (Or.inl rfl) (pe_call G_at (hr.mono (by decide)) rfl M_at.m M_at.k M_at.b .nil pass0 (pa_cons (pv 0) (pa_cons (pv 4) pa_nil))))
    (pss_one (ps_if (pt_cmpR op_gt (pv 1) pe_int (nomark _))
    (pss_cons (ps_expr (pe_bm PySem.F.plainAttrs_list PySem.F.slot_list_append PySem.F.type_list_append mt_append (pv 2) (pa_cons (pe_cmpR op_ne (pe_op op_mod (pv 5) pe_int) pe_int (nomark _)) pa_nil)))
    (pss_one (ps_expr (pe_bm PySem.F.plainAttrs_list PySem.F.slot_list_append PySem.F.type_list_append mt_append (pv 3) (pa_cons (pe_or (pe_cmpR op_eq (pv 4) (pe_op op_sub (pv 1) pe_int) (nomark _)) (pe_one (pe_cmpR op_eq (pe_op op_mod (pe_op op_fdiv (pv 5) pe_int) pe_int) pe_int (nomark _)))) pa_nil)))))
    (pss_cons (ps_expr (pe_bm PySem.F.plainAttrs_list PySem.F.slot_list_append PySem.F.type_list_append mt_append (pv 2) (pa_cons (pe_cmpR op_lt (pe_op op_mod (pv 5) pe_int) pe_int (nomark _)) pa_nil)))
    (pss_one (ps_expr (pe_bm PySem.F.plainAttrs_list PySem.F.slot_list_append PySem.F.type_list_append mt_append (pv 3) (pa_cons (pe_cmpR op_eq (pe_op op_mod (pe_op op_fdiv (pv 5) pe_int) pe_int) pe_int (nomark _)) pa_nil)))))))))
    (pss_one (ps_ret (pe_tup (pa_cons (pv 2) (pa_cons (pv 3) pa_nil)))))))), ?_⟩
  refine ⟨line0, fun p hp => ⟨line0, fun q hq => ?_⟩⟩
  have hq0 : H q = none := (same_new hp _).free hq
  have npq : p ≠ q := ne_of_none upd_same hq
  refine ⟨_, rfl, n, rfl, by omega, by omega, for_range (lo := 0) (n := n) (fun i σ' H' => ∃ (l r : List Bool) (o4 o5 : Option V), σ' = [some (.ref c), some (.int (n : Int)), some (.ref p), some (.ref q), o4, o5] ∧ Same H H' ∧ H' p = some (.lst (l.map V.bl)) ∧ H' q = some (.lst (r.map V.bl)) ∧ l.length = i ∧ r.length = i)
    ⟨[], [], none, none, rfl, (same_new hp _).trans (same_new hq _), by rw [upd_ne npq, upd_same]; rfl, upd_same, rfl, rfl⟩ ?_ ?_⟩
  · rintro i σ' H1 hi ⟨l, r, o4, o5, rfl, sm, h1, h2, e1, e2⟩
    refine ⟨_, rfl, _, rfl, c, ns, _, rfl, sm.seq hS, hl, fun z H2 s2 => ?_⟩
    have lm : (l.map V.bl).length = i := by rw [List.length_map, e1]
    have rm : (r.map V.bl).length = i := by rw [List.length_map, e2]
    have app : ∀ (b b' : Bool), upd (upd H2 p (.lst (l.map V.bl ++ [V.bl b]))) q (.lst (r.map V.bl ++ [V.bl b'])) p = some (.lst ((l ++ [b]).map V.bl)) ∧ upd (upd H2 p (.lst (l.map V.bl ++ [V.bl b]))) q (.lst (r.map V.bl ++ [V.bl b'])) q = some (.lst ((r ++ [b']).map V.bl)) ∧
        Same H (upd (upd H2 p (.lst (l.map V.bl ++ [V.bl b]))) q (.lst (r.map V.bl ++ [V.bl b']))) := fun b b' =>
      ⟨by rw [upd_ne npq, upd_same, List.map_append]; rfl, by rw [upd_same, List.map_append]; rfl, same_upd (same_upd (sm.trans s2) hp _) hq0 _⟩
    have hq2 : ∀ b, upd H2 p (.lst (l.map V.bl ++ [V.bl b])) q = some (.lst (r.map V.bl)) := fun b => by rw [upd_ne npq.symm]; exact s2 _ _ h2
    refine ⟨_, rfl, _, _, rfl, rfl, _, rfl, ite2 (fun _ => ?_) (fun _ => ?_)⟩
    · refine ⟨_, rfl, .inl ⟨rfl, _, SqL.of (s2 _ _ h1)⟩, _, rfl, _, _, rfl, rfl, (by show (0 : Int) < 16; decide), rfl, p, _, _, rfl, rfl, s2 _ _ h1, line_lt (by omega), ?_⟩
      refine ⟨_, rfl, .inl ⟨rfl, _, SqL.of (hq2 _)⟩, _, rfl, _, rfl, _, _, rfl, rfl, rfl, _, rfl, ite2 (fun _ => ?a) (fun _ => ⟨_, rfl, _, _, rfl, rfl, ⟨by decide, by decide⟩, _, _, rfl, rfl, (by show (0 : Int) < 16; decide), rfl, ?b⟩)⟩
      case a | b =>
        refine ⟨q, _, _, rfl, rfl, hq2 _, line_lt (by omega), ?_⟩
        exact ⟨_, _, _, _, rfl, (app _ _).2.2, (app _ _).1, (app _ _).2.1, by rw [List.length_append, e1]; rfl, by rw [List.length_append, e2]; rfl⟩
    · refine ⟨_, rfl, .inl ⟨rfl, _, SqL.of (s2 _ _ h1)⟩, _, rfl, _, _, rfl, rfl, (by show (0 : Int) < 4; decide), _, _, rfl, rfl, p, _, _, rfl, rfl, s2 _ _ h1, line_lt (by omega), ?_⟩
      refine ⟨_, rfl, .inl ⟨rfl, _, SqL.of (hq2 _)⟩, _, rfl, _, _, rfl, rfl, ⟨by decide, by decide⟩, _, _, rfl, rfl, (by show (0 : Int) < 4; decide), rfl, q, _, _, rfl, rfl, hq2 _, line_lt (by omega), ?_⟩
      exact ⟨_, _, _, _, rfl, (app _ _).2.2, (app _ _).1, (app _ _).2.1, by rw [List.length_append, e1]; rfl, by rw [List.length_append, e2]; rfl⟩
  · rintro σ' H1 ⟨l, r, o4, o5, rfl, sm, h1, h2, e1, e2⟩
    refine ⟨_, rfl, _, rfl, line_le (by show 2 ≤ 16000000; decide), fun t ht => ?_⟩
    have st := same_new ht (.tup [V.ref p, V.ref q])
    exact k _ l r _ e1 e2 (sm.trans st) (.tup upd_same (.cons (.of_bools (st _ _ h1)) (.cons (.of_bools (st _ _ h2)) .nil)))
end
end Ws

namespace Ws
open PySem L2
section
variable {P : Program} {w : World} {K : PySem.W.Frag} {mg : Str → Option Value} {base : Heap}
seal L2.PSs L2.PS L2.PE L2.PA L2.PT L2.PG L2.PF L2.PI
def spOn : Sp := fun vs H Q _ => ∃ (so : Str) (r v : Addr) (rows : List (List Bool)) (row : List Int) (bk n : Nat), vs = [.str so, .ref r, .ref v] ∧ DAt H (.ref r) (.lst (rows.map dbools)) ∧ DAt H (.ref v) (.tup [dints row, .int (bk : Int)]) ∧
  0 < rows.length ∧ (rows.getD 0 []).length = n ∧ (so = "until" → 1 < rows.length ∧ (rows.getD 1 []).length = n) ∧ (∀ x ∈ row, 0 ≤ x ∧ x < (n : Int)) ∧ row.length ≤ 10000 ∧ bk < row.length ∧ ∀ H', Same H H' → Q (.bl (onW so rows row bk)) H'
theorem ok_on_way {f : Addr} {fd : FuncData} (F : Fun K "_law_on_way" "_law_on_way" sd_on_way f fd) : FnOk P w K mg base CX0 1 f fd ["_law_sort", "_law_rows", "_law_way"] spOn := by
  refine F.ok sc_on_way (fun vs H Q E h => ?_) (fun cdv A outer s H vs Q E hr h => ?_)
  · obtain ⟨so, r, v, rows, row, bk, n, rfl, _⟩ := h
    rfl
  obtain ⟨so, r, v, rows, row, bk, n, rfl, hr0, hv0, l0, ln, hun, inn, few, hbk, q⟩ := h
  obtain ⟨r', us, e, hR, hu⟩ := DAt.lst_inv hr0
  cases e
  obtain ⟨v', vs, e, hV, hvs⟩ := DAt.tup_inv hv0
  cases e
  cases hvs with | cons d1 hvs => cases hvs with | cons d2 hvs =>
  cases hvs
  cases d2.int_inv
  obtain ⟨ro, rfl, hro⟩ := d1.ints_at
  have rowsAt : ∀ (j : Nat), j < rows.length → ∃ a, atI us (j : Int) = some (V.ref a) ∧ H a = some (.lst ((rows.getD j []).map V.bl)) := fun j hj => by
    obtain ⟨u, eu, du⟩ := hu.nth hj
    obtain ⟨a, rfl, ea⟩ := du.bools_at
    exact ⟨a, atI_nat eu, by rw [getD_eq hj]; exact ea⟩
  obtain ⟨a0, e0, h0⟩ := rowsAt 0 l0
  have e0 : atI us (0 : Int) = some (V.ref a0) := e0
  have fin : ∀ (x : Bool) (H' : Hp), Same H H' → x = onW so rows row bk → Q (.bl x) H' := fun x H' s e => by rw [e]; exact q H' s
  unfold onW at fin
  generalize hr00 : rows.getD 0 [] = r0 at *
  have at_ : ∀ (l : List Bool) (k : Int), l.length = n → 0 ≤ k → k < (n : Int) → atI (l.map V.bl) k = some (V.bl (l.getD k.toNat false)) := fun l k hl p0 p1 => by
    have := row_at (H := H) (a := 0) (l := l) (k := k.toNat) (by omega)
    have e : ((k.toNat : Nat) : Int) = k := by omega
    rw [e] at this
    exact this
  refine ⟨_, 
    (pss_cons (ps_asg (pv 2) (pg_tup (n := 2) rfl (pgs_cons (pg_name (i := 3) sc_on_way.nd rfl (Or.inl rfl)) (pgs_cons (pg_name (i := 4) sc_on_way.nd rfl (Or.inl rfl)) pgs_nil))))
    (pss_cons (ps_comp (i := 6) sc_on_way.nd rfl rfl rfl cs_on_way_0 rfl rfl (pi_list (pv 3)) (fun _ _ _ _ _ => pg_name (i := 0) cs_on_way_0.nd rfl (Or.inl rfl)) (fun _ _ _ _ _ => pf_nil) (fun _ _ _ _ _ => (pe_ix cix_list (pe_ix cix_list (pv 1) pe_int (fun _ _ => rfl)) (pv 0) (fun _ _ => rfl))))
    (pss_cons (ps_if (pt_cmpR op_eq (pv 0) pe_str (nomark _))
    (pss_one (ps_ret (pe_ix ix_list (pe_op op_cat (pv 6) (pe_slice sl_list (pv 6) (po_some (pv 4)) po_none)) pe_int (fun _ _ => rfl))))
    pss_nil)
    (pss_cons (ps_if (pt_cmpR op_eq (pv 0) pe_str (nomark _))
    (pss_cons (ps_for PassesOwn.never rfl (pi_list (pv 3)) (pg_name (i := 5) sc_on_way.nd rfl (Or.inl rfl))
    (pss_cons (ps_if (pt_val (pe_ix ix_list (pe_ix ix_list (pv 1) pe_int (fun _ _ => rfl)) (pv 5) (fun _ _ => rfl)))
    (pss_one (ps_ret pe_bl))
    pss_nil)
    (pss_one (ps_if (pt_not (pt_val (pe_ix ix_list (pe_ix ix_list (pv 1) pe_int (fun _ _ => rfl)) (pv 5) (fun _ _ => rfl))))
    (pss_one (ps_ret pe_bl))
    pss_nil))))
    (pss_one (ps_ret pe_bl)))
    pss_nil)
    (pss_cons (ps_if (pt_cmpR op_eq (pv 0) pe_str (nomark _))
    (pss_one (ps_ret (pe_cmpR op_in_seq pe_bl (pv 6) rfl)))
    pss_nil)
    (pss_cons (ps_if (pt_cmpR op_eq (pv 0) pe_str (nomark _))
    (pss_one (ps_ret (pe_cmpR op_notIn_seq pe_bl (pv 6) rfl)))
    pss_nil)
    (pss_cons (ps_if (pt_cmpR op_eq (pv 0) pe_str (nomark _))
    (pss_one (ps_ret (pe_cmpR op_in_seq pe_bl (pe_slice sl_list (pv 6) (po_some (pv 4)) po_none) rfl)))
    pss_nil)
    (pss_one (ps_ret (pe_cmpR op_notIn_seq pe_bl (pe_slice sl_list (pv 6) (po_some (pv 4)) po_none) rfl)))))))))), ?_⟩
  refine ⟨_, rfl, v, _, rfl, SqT.of hV, rfl, _, _, rfl, _, _, rfl, rfl, ?_⟩
  refine ⟨_, rfl, ro, rfl, ⟨_, SqL.of hro⟩, fun D hD => ?_⟩
  refine comp_over (xs := row.map V.int) (fun i ys τ H' => Same H H' ∧ H' D = some (.lst ys) ∧ ys = (trOf r0 (row.take i)).map V.bl ∧ ∃ v, τ = [v, some (.ref r)]) ⟨same_new hD _, upd_same, rfl, none, rfl⟩ (fun i ys τ H' _ h => SqL.of (h.1 _ _ hro)) ?_ ?_
  · rintro i y ys τ H1 hy ⟨s1, hD1, rfl, v', rfl⟩
    obtain ⟨e, rfl, he⟩ := int_mem hy
    have hi := (List.getElem?_eq_some_iff.mp he).1
    obtain ⟨p0, p1⟩ := inn e (List.mem_of_getElem? he)
    refine ⟨_, rfl, r, us, _, _, rfl, rfl, SqL.of (s1 _ _ hR), e0, _, rfl, a0, _, _, _, rfl, rfl, SqL.of (s1 _ _ h0), at_ r0 e ln p0 p1, hD1, ?_, same_upd s1 hD _, upd_same, ?_, _, rfl⟩
    · rw [List.length_map]
      unfold trOf
      rw [List.length_map, List.length_take]
      exact line_lt (by omega)
    · unfold trOf
      rw [List.take_add_one, he, List.map_append, List.map_append]
      rfl
  rintro ys τ H1 ⟨s1, hD1, rfl, v', rfl⟩
  rw [List.length_map, List.take_length] at hD1
  have ltr : (trOf r0 row).length = row.length := List.length_map _
  have cutb : cutV ((trOf r0 row).map V.bl) (some (bk : Int)) none = ((trOf r0 row).drop bk).map V.bl := by rw [List.map_drop]; exact cut_from _ bk
  refine ⟨_, rfl, rfl, _, rfl, itS (fun hs => ?_) (fun hs => ?_)⟩
  · -- next
    rw [if_pos hs] at fin
    refine ⟨_, rfl, _, rfl, _, rfl, _, rfl, D, _, rfl, SqL.of hD1, fun c1 hc1 => ?_⟩
    rw [cutb]
    have s2 := same_new hc1 (.lst (((trOf r0 row).drop bk).map V.bl))
    refine ⟨D, c1, _, _, rfl, rfl, s2 _ _ hD1, upd_same, ?_, fun c2 hc2 => ?_⟩
    · rw [List.length_map, List.length_map, List.length_drop, ltr]
      exact line_le (by omega)
    have s3 := same_new hc2 (.lst ((trOf r0 row).map V.bl ++ ((trOf r0 row).drop bk).map V.bl))
    have hl : 1 < (trOf r0 row ++ (trOf r0 row).drop bk).length := by rw [List.length_append, List.length_drop, ltr]; omega
    have e1 : atI ((trOf r0 row).map V.bl ++ ((trOf r0 row).drop bk).map V.bl) (1 : Int) = some (V.bl ((trOf r0 row ++ (trOf r0 row).drop bk).getD 1 false)) := by
      rw [← List.map_append]
      exact row_at (H := H) (a := 0) hl
    exact ⟨c2, _, _, _, rfl, rfl, SqL.of upd_same, e1, fin _ _ (s1.trans (s2.trans s3)) rfl⟩
  rw [if_neg hs] at fin
  refine ⟨_, rfl, rfl, _, rfl, itS (fun hs => ?_) (fun hs => ?_)⟩
  · -- until
    rw [if_pos hs] at fin
    obtain ⟨l1, ln1⟩ := hun hs
    obtain ⟨a1, e1, h1⟩ := rowsAt 1 l1
    have e1 : atI us (1 : Int) = some (V.ref a1) := e1
    generalize rows.getD 1 [] = r1 at *
    refine ⟨_, rfl, ro, rfl, ⟨_, SqL.of (s1 _ _ hro)⟩, for_list (K := K) (a := ro) (xs := row.map V.int) (fun i σ' H' => (∃ o5, σ' = [some (.str so), some (.ref r), some (.ref v), some (.ref ro), some (.int (bk : Int)), o5, some (.ref D)]) ∧ H' = H1 ∧ untilB r0 r1 row = untilB r0 r1 (row.drop i))
      ⟨⟨_, rfl⟩, rfl, rfl⟩ (fun i σ' H' _ h => by rw [h.2.1]; exact SqL.of (s1 _ _ hro)) ?_ ?_⟩
    · rintro i y σ' H' hy ⟨⟨o5, rfl⟩, rfl, hun⟩
      obtain ⟨e, rfl, he⟩ := int_mem hy
      have hi := (List.getElem?_eq_some_iff.mp he).1
      obtain ⟨p0, p1⟩ := inn e (List.mem_of_getElem? he)
      have dr : row.drop i = e :: row.drop (i + 1) := by
        rw [List.drop_eq_getElem_cons hi]
        congr 1
        exact (List.getElem?_eq_some_iff.mp he).2
      rw [dr] at hun
      have hun : untilB r0 r1 row = (if r1.getD e.toNat false then true else if r0.getD e.toNat false then untilB r0 r1 (row.drop (i + 1)) else false) := hun
      refine ⟨_, rfl, r, us, _, _, rfl, rfl, SqL.of (s1 _ _ hR), e1, _, rfl, a1, _, _, _, rfl, rfl, SqL.of (s1 _ _ h1), at_ r1 e ln1 p0 p1, _, rfl, ?_⟩
      cases hb : r1.getD e.toNat false with
      | true =>
        rw [hb] at hun
        exact iteT (fin _ _ s1 hun.symm)
      | false =>
        rw [hb] at hun
        refine iteF ⟨_, rfl, r, us, _, _, rfl, rfl, SqL.of (s1 _ _ hR), e0, _, rfl, a0, _, _, _, rfl, rfl, SqL.of (s1 _ _ h0), at_ r0 e ln p0 p1, _, rfl, ?_⟩
        cases hb0 : r0.getD e.toNat false with
        | false =>
          rw [hb0] at hun
          exact ite2 (fun _ => fin _ _ s1 hun.symm) (fun z => absurd rfl z)
        | true =>
          rw [hb0] at hun
          exact ite2 (fun z => absurd z Bool.false_ne_true) (fun _ => ⟨⟨_, rfl⟩, rfl, hun⟩)
    · rintro σ' H' ⟨⟨o5, rfl⟩, rfl, hun⟩
      rw [List.length_map, List.drop_length] at hun
      exact fin _ _ s1 hun.symm
  rw [if_neg hs] at fin
  refine ⟨_, rfl, rfl, _, rfl, itS (fun hs => ?_) (fun hs => ?_)⟩
  · rw [if_pos hs] at fin
    refine ⟨_, rfl, D, _, rfl, .inl (SqL.of hD1), rfl, flat_bls, fin _ _ s1 ?_⟩
    show inV (.bl true) _ = _
    rw [inV_bl]
  rw [if_neg hs] at fin
  refine ⟨_, rfl, rfl, _, rfl, itS (fun hs => ?_) (fun hs => ?_)⟩
  · rw [if_pos hs] at fin
    refine ⟨_, rfl, D, _, rfl, .inl (SqL.of hD1), rfl, flat_bls, fin _ _ s1 ?_⟩
    show (!inV (.bl false) _) = _
    rw [inV_bl]
  rw [if_neg hs] at fin
  refine ⟨_, rfl, rfl, _, rfl, itS (fun hs => ?_) (fun hs => ?_)⟩
  · rw [if_pos hs] at fin
    refine ⟨_, rfl, _, rfl, _, rfl, D, _, rfl, SqL.of hD1, fun c1 hc1 => ?_⟩
    rw [cutb]
    refine ⟨c1, _, rfl, .inl (SqL.of upd_same), rfl, flat_bls, fin _ _ (s1.trans (same_new hc1 _)) ?_⟩
    show inV (.bl true) _ = _
    rw [inV_bl]
  · rw [if_neg hs] at fin
    refine ⟨_, rfl, _, rfl, _, rfl, D, _, rfl, SqL.of hD1, fun c1 hc1 => ?_⟩
    rw [cutb]
    refine ⟨c1, _, rfl, .inl (SqL.of upd_same), rfl, flat_bls, fin _ _ (s1.trans (same_new hc1 _)) ?_⟩
    show (!inV (.bl false) _) = _
    rw [inV_bl]
end
end Ws

namespace Ws
open PySem L2
section
variable {P : Program} {w : World} {K : PySem.W.Frag} {mg : Str → Option Value} {base : Heap}
seal L2.PSs L2.PS L2.PE L2.PA L2.PT L2.PG L2.PF L2.PI
def spWay (K : PySem.W.Frag) : Sp := fun vs H Q _ => ∃ (a c : Addr) (s : Int) (n b : Nat) (W : World2) (cs : List Int), vs = [.ref a, .int s, .ref c] ∧ DAt H (.ref a) (wdat W) ∧ Valid n b W ∧ n ≤ 1000 ∧ 0 ≤ s ∧ s < (n : Int) ∧ b ≤ 1000 ∧ SqL K H c (cs.map V.int) ∧ cs.length ≤ 1000 ∧
  ∀ (v : V) (row : List Int) (bk : Nat) (H' : Hp), Same H H' → DAt H' v (.tup [dints row, .int (bk : Int)]) → Path n W row → row[0]? = some s → row.length ≤ 3000 →
    (∃ x y st, row[row.length - 1]? = some x ∧ row[bk]? = some y ∧ W[x.toNat]? = some st ∧ y ∈ st.2) → Q v H'
theorem ok_way_of {f : Addr} {fd : FuncData} (F : Fun K "_law_way_of" "_law_way_of" sd_way_of f fd) (B : Blt mg) : FnOk P w K mg base CX0 1 f fd ["_law_world", "_law_start", "_law_cells"] (spWay K) := by
  refine F.ok sc_way_of (fun vs H Q E h => ?_) (fun cdv A outer s H vs Q E hr h => ?_)
  · obtain ⟨a, c, s, n, b, W, cs, rfl, _⟩ := h
    rfl
  obtain ⟨a, c, s, n, b, W, cs, rfl, ha, hW, hn, s0, s1, hb, hC, lc, k⟩ := h
  obtain ⟨a', us, e, hA, hv⟩ := DAt.lst_inv ha
  cases e
  have lv := hv.length
  rw [List.length_map] at lv
  have lW := hW.len
  -- a state of the row: its tuple, its doors
  have st : ∀ x : Int, 0 ≤ x → x < (n : Int) → ∃ (t m d : Addr) (S : List Int × List Int), atI us x = some (.ref t) ∧ H t = some (.tup [.ref m, .ref d]) ∧ H d = some (.lst (S.2.map V.int)) ∧ W[x.toNat]? = some S ∧ S.2 ≠ [] ∧ (∀ e ∈ S.2, 0 ≤ e ∧ e < (n : Int)) ∧ S.2.length ≤ 1000 := fun x h0 h1 => by
    have hi : x.toNat < W.length := by omega
    obtain ⟨u, eu, du⟩ := hv.nth hi
    obtain ⟨t, m, d, rfl, et, em, ed⟩ := sdat_inv du
    have al := hW.all _ (List.getElem_mem hi)
    exact ⟨t, m, d, W[x.toNat], atI_of eu (by omega), et, ed, List.getElem?_eq_getElem hi, al.1, al.2.1, by have := al.2.2.2; omega⟩
  refine ⟨_, 
    (pss_cons (ps_set (i := 3) sc_way_of.nd rfl (Or.inl rfl) (pe_lst (pa_cons (pv 1) pa_nil)))
    (pss_cons (ps_for PassesOwn.never rfl (pi_list (pv 2)) (pg_name (i := 4) sc_way_of.nd rfl (Or.inl rfl))
    (pss_cons (ps_set (i := 5) sc_way_of.nd rfl (Or.inl rfl) (pe_ix ix_tup (pe_ix ix_list (pv 0) (pe_ix ix_list (pv 3) (pe_un un_neg pe_int) (fun _ _ => rfl)) (fun _ _ => rfl)) pe_int (fun _ _ => rfl)))
    (pss_one (ps_expr (pe_bm PySem.F.plainAttrs_list PySem.F.slot_list_append PySem.F.type_list_append mt_append (pv 3) (pa_cons (pe_ix ix_list (pv 5) (pe_op op_mod (pv 4) (pe_callB call_len_seq rfl B.len PySem.boot_len (pa_cons (pv 5) pa_nil))) (fun _ _ => rfl)) pa_nil))))))
    (pss_cons (ps_while PassesOwn.never (pt_cmpR op_notIn_seq (pe_ix ix_list (pe_ix ix_tup (pe_ix ix_list (pv 0) (pe_ix ix_list (pv 3) (pe_un un_neg pe_int) (fun _ _ => rfl)) (fun _ _ => rfl)) pe_int (fun _ _ => rfl)) pe_int (fun _ _ => rfl)) (pv 3) rfl)
    (pss_one (ps_expr (pe_bm PySem.F.plainAttrs_list PySem.F.slot_list_append PySem.F.type_list_append mt_append (pv 3) (pa_cons (pe_ix ix_list (pe_ix ix_tup (pe_ix ix_list (pv 0) (pe_ix ix_list (pv 3) (pe_un un_neg pe_int) (fun _ _ => rfl)) (fun _ _ => rfl)) pe_int (fun _ _ => rfl)) pe_int (fun _ _ => rfl)) pa_nil)))))
    (pss_one (ps_ret (pe_tup (pa_cons (pv 3) (pa_cons (pe_bm PySem.F.plainAttrs_list PySem.F.slot_list_index PySem.F.type_list_index mt_index (pv 3) (pa_cons (pe_ix ix_list (pe_ix ix_tup (pe_ix ix_list (pv 0) (pe_ix ix_list (pv 3) (pe_un un_neg pe_int) (fun _ _ => rfl)) (fun _ _ => rfl)) pe_int (fun _ _ => rfl)) pe_int (fun _ _ => rfl)) pa_nil)) pa_nil)))))))), ?_⟩
  refine ⟨_, rfl, line_le (by show 1 ≤ 16000000; decide), fun q hq => ?_⟩
  have sq := same_new hq (.lst [V.int s])
  refine ⟨_, rfl, c, rfl, ⟨_, sq.seq hC⟩, for_list (K := K) (a := c) (xs := cs.map V.int) (fun i σ' H' => ∃ (r : List Int) (x : Int) (o4 o5 : Option V), σ' = [some (.ref a), some (.int s), some (.ref c), some (.ref q), o4, o5] ∧ Same H H' ∧ H' q = some (.lst ((r ++ [x]).map V.int)) ∧ Path n W (r ++ [x]) ∧ (r ++ [x])[0]? = some s ∧ r.length = i)
    ⟨[], s, none, none, rfl, sq, upd_same, ⟨fun z hz => by have hz : z ∈ [s] := hz; rw [List.mem_singleton] at hz; omega, fun i x y hx hy => by simp at hy⟩, rfl, rfl⟩ (fun i σ' H' _ ⟨_, _, _, _, _, sm, _⟩ => sm.seq hC) ?_ ?_⟩
  · rintro i y σ' H1 hy ⟨r, x, o4, o5, rfl, sm, hq1, pa, r0, lr⟩
    obtain ⟨ce, rfl, hce⟩ := int_mem hy
    have hi := (List.getElem?_eq_some_iff.mp hce).1
    obtain ⟨x0, x1⟩ := pa.inn x (List.mem_append_right _ (List.mem_singleton.mpr rfl))
    obtain ⟨t, m, d, S, e1, et, ed, eW, ne, inn, few⟩ := st x x0 x1
    have la : atI ((r ++ [x]).map V.int) (-1) = some (V.int x) := by rw [List.map_append]; exact atI_last _ _
    refine ⟨_, rfl, _, rfl, _, rfl, q, _, _, _, rfl, rfl, SqL.of hq1, la, a, us, _, _, rfl, rfl, SqL.of (sm _ _ hA), e1, t, _, _, _, rfl, rfl, SqT.of (sm _ _ et), at1, ?_⟩
    have lS : 0 < (S.2.map V.int).length := by
      rw [List.length_map]
      exact List.length_pos_iff.mpr ne
    obtain ⟨v, ev, ev2⟩ := idx_mod (xs := S.2.map V.int) (z := ce) rfl lS
    obtain ⟨e, rfl, he⟩ := int_mem ev2
    obtain ⟨p0, p1⟩ := inn e (List.mem_of_getElem? he)
    refine ⟨_, rfl, .inl ⟨rfl, _, SqL.of hq1⟩, _, rfl, _, rfl, _, rfl, d, _, rfl, .inl (SqL.of (sm _ _ ed)), _, _, rfl, rfl, (by omega), d, _, _, _, rfl, rfl, SqL.of (sm _ _ ed), ev, q, _, _, rfl, rfl, hq1, ?_, ?_⟩
    · rw [List.length_map, List.length_append]
      exact line_lt (by show r.length + 1 ≤ 16000000; omega)
    refine ⟨r ++ [x], e, _, _, rfl, same_upd sm hq _, by rw [upd_same, map_snoc (r ++ [x])], pa.snoc p0 p1 eW (List.mem_of_getElem? he), ?_, ?_⟩
    · rw [List.getElem?_append_left (by rw [List.length_append]; show 0 < r.length + 1; omega)]
      exact r0
    · rw [List.length_append, lr]; rfl
  rintro σ' H1 ⟨r, x, o4, o5, rfl, sm, hq1, pa, r0, lr⟩
  rw [List.length_map] at lr
  refine ⟨fun m σ' H' => ∃ (r : List Int) (x : Int), m = missing n (r ++ [x]) ∧ σ' = [some (.ref a), some (.int s), some (.ref c), some (.ref q), o4, o5] ∧ Same H H' ∧ H' q = some (.lst ((r ++ [x]).map V.int)) ∧ Path n W (r ++ [x]) ∧ (r ++ [x])[0]? = some s ∧ (r ++ [x]).length + missing n (r ++ [x]) ≤ 3000,
    ⟨_, r, x, rfl, rfl, sm, hq1, pa, r0, by have := missing_le n (r ++ [x]); rw [List.length_append]; show r.length + 1 + _ ≤ 3000; omega⟩, ?_⟩
  clear sm hq1 pa r0 lr
  rintro m σ' H2 ⟨r, x, rfl, rfl, sm, hq2, pa, r0, lr⟩
  obtain ⟨x0, x1⟩ := pa.inn x (List.mem_append_right _ (List.mem_singleton.mpr rfl))
  obtain ⟨t, m, d, S, e1, et, ed, eW, ne, inn, few⟩ := st x x0 x1
  obtain ⟨y, hy0, hyS⟩ : ∃ y, atI (S.2.map V.int) (0 : Int) = some (V.int y) ∧ y ∈ S.2 := by
    cases hS : S.2 with
    | nil => exact absurd hS ne
    | cons y rr => exact ⟨y, at0, by simp⟩
  obtain ⟨y0, y1⟩ := inn y hyS
  have la : atI ((r ++ [x]).map V.int) (-1) = some (V.int x) := by rw [List.map_append]; exact atI_last _ _
  refine ⟨_, rfl, _, rfl, _, rfl, q, _, _, _, rfl, rfl, SqL.of hq2, la, a, us, _, _, rfl, rfl, SqL.of (sm _ _ hA), e1, t, _, _, _, rfl, rfl, SqT.of (sm _ _ et), at1, d, _, _, _, rfl, rfl, SqL.of (sm _ _ ed), hy0, _, rfl, q, _, rfl, .inl (SqL.of hq2), rfl, flat_ints, _, rfl, ite2 (fun cz => ?_) (fun cz => ?_)⟩
  · have cz : (!inV (V.int y) ((r ++ [x]).map V.int)) = true := cz
    rw [inV_int] at cz
    have hy : ¬ y ∈ r ++ [x] := by simpa using cz
    refine ⟨_, fun _ _ h => h, ?_⟩
    refine ⟨_, rfl, .inl ⟨rfl, _, SqL.of hq2⟩, _, rfl, _, rfl, _, rfl, q, _, _, _, rfl, rfl, SqL.of hq2, la, a, us, _, _, rfl, rfl, SqL.of (sm _ _ hA), e1, t, _, _, _, rfl, rfl, SqT.of (sm _ _ et), at1, d, _, _, _, rfl, rfl, SqL.of (sm _ _ ed), hy0, q, _, _, rfl, rfl, hq2, ?_, ?_⟩
    · rw [List.length_map]
      exact line_lt (by omega)
    have ml := missing_lt y0 y1 hy
    refine ⟨_, ml, r ++ [x], y, rfl, rfl, same_upd sm hq _, by rw [upd_same, map_snoc (r ++ [x])], pa.snoc y0 y1 eW hyS, ?_, ?_⟩
    · rw [List.getElem?_append_left (by rw [List.length_append]; show 0 < r.length + 1; omega)]
      exact r0
    · rw [List.length_append]
      show (r ++ [x]).length + 1 + _ ≤ 3000
      omega
  · have cz : ¬ (!inV (V.int y) ((r ++ [x]).map V.int)) = true := cz
    rw [inV_int] at cz
    have hy : y ∈ r ++ [x] := Classical.byContradiction fun z => cz (by rw [decide_eq_false z]; rfl)
    obtain ⟨jj, hj, hjx⟩ := find_mem hy
    refine ⟨_, rfl, _, rfl, .inl ⟨rfl, _, SqL.of hq2⟩, _, rfl, _, rfl, _, rfl, q, _, _, _, rfl, rfl, SqL.of hq2, la, a, us, _, _, rfl, rfl, SqL.of (sm _ _ hA), e1, t, _, _, _, rfl, rfl, SqT.of (sm _ _ et), at1, d, _, _, _, rfl, rfl, SqL.of (sm _ _ ed), hy0, q, _, _, jj, rfl, rfl, hq2, rfl, flat_ints, hj, line_le (by show 2 ≤ 16000000; decide), fun t2 ht2 => ?_⟩
    have s2 := same_new ht2 (.tup [V.ref q, V.int (jj : Int)])
    refine k _ (r ++ [x]) jj _ (sm.trans s2) (.tup upd_same (.cons (.of_ints (s2 _ _ hq2)) (.cons (.int _) .nil))) pa r0 (by omega) ⟨x, y, S, ?_, hjx, eW, hyS⟩
    exact last_at r x
end
end Ws

namespace Ws
open PySem L2
section
variable {P : Program} {w : World} {K : PySem.W.Frag} {mg : Str → Option Value} {base : Heap}
seal L2.PSs L2.PS L2.PE L2.PA L2.PT L2.PG L2.PF L2.PI
/-- further marks: the doors stay -/
def spOthers (K : PySem.W.Frag) : Sp := fun vs H Q _ => ∃ (a b : Addr) (ns : List Int) (W : World2) (n : Nat), vs = [.ref a, .ref b] ∧ SqL K H a (ns.map V.int) ∧ ns.length ≤ 1000000 ∧ DAt H (.ref b) (wdat W) ∧ Valid n 100 W ∧ n ≤ 1000 ∧
  ∀ (v : V) (W' : World2) (H' : Hp), Same H H' → DAt H' v (wdat W') → Valid n 200 W' → Q v H'
theorem ok_with_others {f g h : Addr} {fd gd hd' : FuncData} (F : Fun K "_law_with_others" "_law_with_others" sd_with_others f fd) (B : Blt mg) (G_at : FnOk P w K mg base CX0 1 g gd ["_law_script", "_law_k"] (spAt K)) (M_at : MG K mg "_law_at" ["_law_script", "_law_k"] g gd)
    (G_first_mark : FnOk P w K mg base CX0 2 h hd' ["_law_script"] (spMark K)) (M_first_mark : MG K mg "_law_first_mark" ["_law_script"] h hd') : FnOk P w K mg base CX0 3 f fd ["_law_script", "_law_world"] (spOthers K) := by
  refine F.ok sc_with_others (fun vs H Q E h => ?_) (fun cdv A outer s H vs Q E hr h => ?_)
  · obtain ⟨a, b, ns, W, n, rfl, _⟩ := h
    rfl
  obtain ⟨a, b, ns, W, n, rfl, hS, hl, hb, hW, hn, k⟩ := h
  obtain ⟨b', us, e, hB, hv⟩ := DAt.lst_inv hb
  cases e
  have lv := hv.length
  rw [List.length_map] at lv
  have lW := hW.len
  refine ⟨_, 
    (pss_cons (ps_set (i := 2) sc_with_others.nd rfl (Or.inl rfl) (pe_lst pa_nil))
    (pss_cons (ps_for PassesOwn.never rfl (pi_range1 rfl B.range (pa_cons (pe_callB call_len_seq rfl B.len PySem.boot_len (pa_cons (pv 1) pa_nil)) pa_nil)) (pg_name (i := 3) sc_with_others.nd rfl (Or.inl rfl))
    (pss_cons (ps_set (i := 4) sc_with_others.nd rfl (Or.inl rfl) (pe_op op_mod (pe_op op_add (pe_call G_at (hr.mono (by decide)) rfl M_at.m M_at.k M_at.b .nil pass0 (pa_cons (pv 0) (pa_cons pe_int pa_nil))) (pv 3)) pe_int))
    (pss_cons (ps_comp (i := 5) sc_with_others.nd rfl rfl rfl cs_with_others_0 rfl rfl (pi_range1 rfl B.range (pa_cons (pv 4) pa_nil)) (fun _ _ _ _ _ => pg_name (i := 0) cs_with_others_0.nd rfl (Or.inl rfl)) (fun _ _ _ _ _ => pf_nil) (fun _ _ _ _ _ => (pe_op op_add (pe_op op_add (pe_call G_first_mark (hr.mono (by decide)) rfl M_first_mark.m M_first_mark.k M_first_mark.b .nil pass0 (pa_cons (pv 1) pa_nil)) pe_int) (pv 0))))
    (pss_one (ps_expr (pe_bm PySem.F.plainAttrs_list PySem.F.slot_list_append PySem.F.type_list_append mt_append (pv 2) (pa_cons (pe_tup (pa_cons (pe_op op_cat (pe_op op_cat (pe_slice sl_list (pv 5) po_none (po_some pe_int)) (pe_ix ix_tup (pe_ix ix_list (pv 1) (pv 3) (fun _ _ => rfl)) pe_int (fun _ _ => rfl))) (pe_slice sl_list (pv 5) (po_some pe_int) po_none)) (pa_cons (pe_ix ix_tup (pe_ix ix_list (pv 1) (pv 3) (fun _ _ => rfl)) pe_int (fun _ _ => rfl)) pa_nil))) pa_nil)))))))
    (pss_one (ps_ret (pv 2))))), ?_⟩
  refine ⟨line0, fun q hq => ?_⟩
  have s0 := same_new hq (.lst [])
  refine ⟨_, rfl, b, us, rfl, .inl (SqL.of (s0 _ _ hB)), _, rfl, by omega, by omega, for_range (lo := 0) (n := us.length) (fun i σ' H' => ∃ (ts : World2) (ys : List V) (o3 o4 o5 : Option V), σ' = [some (.ref a), some (.ref b), some (.ref q), o3, o4, o5] ∧ Grow sdat H H' q ts ys ∧ ts.length = i ∧ ∀ t ∈ ts, StOk n 200 t)
    ⟨[], [], none, none, none, rfl, Grow.start hq, rfl, fun _ h => by cases h⟩ ?_ ?_⟩
  · rintro i σ' H1 hi ⟨ts, ys, o3, o4, o5, rfl, gr, et, oks⟩
    have hiW : i < W.length := by omega
    obtain ⟨u, hu, du⟩ := hv.nth hiW
    obtain ⟨t, m, d, rfl, ett, em, ed⟩ := sdat_inv du
    have hWi := hW.all _ (List.getElem_mem hiW)
    refine ⟨_, rfl, a, ns, 27, rfl, gr.same.seq hS, hl, fun z H2 s2 => ?_⟩
    refine ⟨_, rfl, _, _, rfl, rfl, _, _, rfl, rfl, (by show (0 : Int) < 7; decide), ?_⟩
    have g2 := gr.keep s2
    refine ⟨_, rfl, _, rfl, ?_, ?_, fun D hD => ?_⟩
    · have := Int.emod_nonneg (z + (0 + (i : Int))) (show (7 : Int) ≠ 0 by decide)
      show -(2 ^ 62) ≤ (z + (0 + (i : Int))) % 7
      omega
    · have := Int.emod_lt_of_pos (z + (0 + (i : Int))) (show (0 : Int) < 7 by decide)
      show (z + (0 + (i : Int))) % 7 < 2 ^ 62
      omega
    have h7 : ((z + (0 + (i : Int))) % 7).toNat ≤ 6 := by
      have := Int.emod_lt_of_pos (z + (0 + (i : Int))) (show (0 : Int) < 7 by decide)
      omega
    refine comp_range (fun j es τ H' => ∃ zs : List Int, zs.length = j ∧ es = zs.map V.int ∧ H' D = some (.lst es) ∧ Same H2 H' ∧ ∃ v, τ = [v, some (.ref a)]) ⟨[], rfl, rfl, upd_same, same_new hD _, none, rfl⟩ ?_ ?_
    · rintro j es τ H3 hj ⟨zs, ez, rfl, hD3, s3, v, rfl⟩
      have lz : (zs.map V.int).length = j := by rw [List.length_map, ez]
      refine ⟨_, rfl, a, ns, rfl, (g2.same.trans s3).seq hS, hl, fun y H4 s4 => ?_⟩
      refine ⟨_, _, rfl, rfl, _, rfl, _, _, rfl, rfl, s4 _ _ hD3, line_lt (by omega), ?_⟩
      refine ⟨zs ++ [y + 2 + (0 + (j : Int))], ?_, ?_, upd_same, same_upd (s3.trans s4) hD _, _, rfl⟩
      · rw [List.length_append, ez]; rfl
      · rw [List.map_append]; rfl
    rintro es τ H3 ⟨zs, ez, rfl, hD3, s3, v, rfl⟩
    have g3 := g2.keep s3
    have lz : (zs.map V.int).length = zs.length := List.length_map _
    have cut3 : cutV (zs.map V.int) none (some 3) = (zs.take 3).map V.int := by rw [List.map_take]; exact cut_to _ 3
    have cut4 : cutV (zs.map V.int) (some 3) none = (zs.drop 3).map V.int := by rw [List.map_drop]; exact cut_from _ 3
    refine ⟨_, rfl, .inl ⟨rfl, _, SqL.of g3.at_⟩, _, rfl, _, rfl, D, _, rfl, SqL.of hD3, fun c1 hc1 => ?_⟩
    rw [cut3]
    have s4 := same_new hc1 (.lst ((zs.take 3).map V.int))
    have e1 : upd H3 c1 (.lst ((zs.take 3).map V.int)) c1 = some (.lst ((zs.take 3).map V.int)) := upd_same
    generalize upd H3 c1 (.lst ((zs.take 3).map V.int)) = H4 at s4 e1
    have S4 := g3.same.trans s4
    refine ⟨_, rfl, _, rfl, b, us, _, _, rfl, rfl, SqL.of (S4 _ _ hB), atI_of hu (by omega), t, _, _, _, rfl, rfl, SqT.of (S4 _ _ ett), at0, c1, m, _, _, rfl, rfl, e1, S4 _ _ em, ?_, fun c2 hc2 => ?_⟩
    · rw [List.length_map, List.length_map, List.length_take]
      exact line_le (by have := hWi.2.2.1; omega)
    have s5 := same_new hc2 (.lst ((zs.take 3).map V.int ++ W[i].1.map V.int))
    have e2 : upd H4 c2 (.lst ((zs.take 3).map V.int ++ W[i].1.map V.int)) c2 = some (.lst ((zs.take 3).map V.int ++ W[i].1.map V.int)) := upd_same
    generalize upd H4 c2 (.lst ((zs.take 3).map V.int ++ W[i].1.map V.int)) = H5 at s5 e2
    refine ⟨_, rfl, _, rfl, D, _, rfl, SqL.of ((s4.trans s5) _ _ hD3), fun c3 hc3 => ?_⟩
    rw [cut4]
    have s6 := same_new hc3 (.lst ((zs.drop 3).map V.int))
    have e3 : upd H5 c3 (.lst ((zs.drop 3).map V.int)) c3 = some (.lst ((zs.drop 3).map V.int)) := upd_same
    generalize upd H5 c3 (.lst ((zs.drop 3).map V.int)) = H6 at s6 e3
    refine ⟨c2, c3, _, _, rfl, rfl, s6 _ _ e2, e3, ?_, fun c4 hc4 => ?_⟩
    · rw [List.length_append, List.length_map, List.length_map, List.length_map, List.length_take, List.length_drop]
      exact line_le (by have := hWi.2.2.1; omega)
    have em4 : (zs.take 3).map V.int ++ W[i].1.map V.int ++ (zs.drop 3).map V.int = (zs.take 3 ++ W[i].1 ++ zs.drop 3).map V.int := by rw [List.map_append, List.map_append]
    rw [em4]
    have s7 := same_new hc4 (.lst ((zs.take 3 ++ W[i].1 ++ zs.drop 3).map V.int))
    have e4 : upd H6 c4 (.lst ((zs.take 3 ++ W[i].1 ++ zs.drop 3).map V.int)) c4 = some (.lst ((zs.take 3 ++ W[i].1 ++ zs.drop 3).map V.int)) := upd_same
    have n4 : c4 ≠ q := fun z => by rw [z, (s4.trans (s5.trans s6)) _ _ g3.at_] at hc4; cases hc4
    generalize upd H6 c4 (.lst ((zs.take 3 ++ W[i].1 ++ zs.drop 3).map V.int)) = H7 at s7 e4
    have S7 := s4.trans (s5.trans (s6.trans s7))
    refine ⟨_, rfl, _, rfl, b, us, _, _, rfl, rfl, SqL.of ((g3.same.trans S7) _ _ hB), atI_of hu (by omega), t, _, _, _, rfl, rfl, SqT.of ((g3.same.trans S7) _ _ ett), at1, line_le (by show 2 ≤ 16000000; decide), fun t2 ht2 => ?_⟩
    have s8 := same_new ht2 (.tup [V.ref c4, V.ref d])
    have n8 : t2 ≠ q := fun z => by rw [z, S7 _ _ g3.at_] at ht2; cases ht2
    have g8 := g3.keep (S7.trans s8)
    have ly := g8.len
    have nd : d ≠ q := ne_of_none ed hq
    refine ⟨q, _, _, rfl, rfl, g8.at_, line_lt (by omega), ?_⟩
    refine ⟨ts ++ [(zs.take 3 ++ W[i].1 ++ zs.drop 3, W[i].2)], _, _, _, _, rfl, g8.push (sdat_mk (by rw [del_ne n8]; exact upd_same) (by rw [del_ne n4]; exact s8 _ _ e4) (by rw [del_ne nd]; exact g8.same _ _ ed)), ?_, ok_snoc oks ⟨hWi.1, hWi.2.1, ?_, ?_⟩⟩
    · rw [List.length_append, et]; rfl
    · show (zs.take 3 ++ W[i].1 ++ zs.drop 3).length ≤ 200
      rw [List.length_append, List.length_append, List.length_take, List.length_drop]
      have := hWi.2.2.1
      omega
    · have := hWi.2.2.2
      show W[i].2.length ≤ 200
      omega
  · rintro σ' H1 ⟨ts, ys, o3, o4, o5, rfl, gr, et, oks⟩
    refine ⟨_, rfl, ?_⟩
    exact k _ ts _ gr.same gr.done (valid_of (by omega) oks)
end
end Ws

namespace Ws
open PySem L2
section
variable {P : Program} {w : World} {K : PySem.W.Frag} {mg : Str → Option Value} {base : Heap}
/-- the row of again: as drawn, or the second one -/
def tHere (K : PySem.W.Frag) : TS := fun D σ H => ∃ (a ra h0 : Addr) (ns : List Int) (r zs : List Bool), σ[0]? = some (some (.ref a)) ∧ SqL K H a (ns.map V.int) ∧ ns.length ≤ 1000000 ∧ σ[4]? = some (some (.ref ra)) ∧ H ra = some (.lst (r.map V.bl)) ∧
  σ[7]? = some (some (.ref h0)) ∧ H h0 = some (.lst (zs.map V.bl)) ∧ zs.length = r.length ∧ ∀ (hd : Addr) (here : List Bool) (H2 : Hp), here.length = r.length → Same H H2 → H2 hd = some (.lst (here.map V.bl)) → D.nx (σ.set 7 (some (.ref hd))) H2
theorem wk_here : ∀ D σ H, tHere K D σ H → tIfS (tTest (tOp rEq (tOp (rI (fun _ j => 0 < j) fun i j => V.int (i % j)) (tOp (rI CDiv fun i j => V.int (i / j)) (tCall (spAt K) [] E0 (tCons (tVar 0) (tCons (tC (V.int 2)) tNil))) (tC (V.int 6))) (tC (V.int 2))) (tC (V.int 1))))
    (tAsg (tCB (fun xs H Q => ∃ p ys, xs = [V.ref p] ∧ (SqL K H p ys ∨ SqT K H p ys) ∧ ∀ (l : Addr), H l = none → Q (V.ref l) (upd H l (HO.lst ys))) (tCons (tVar 4) tNil)) (gName 7)) tNext D σ H := by
  rintro D σ H ⟨a, ra, h0, ns, r, zs, e0, hS, hl, e4, hr, e7, hz, ez, k⟩
  refine ⟨_, e0, a, ns, 2, rfl, hS, hl, fun z H1 s1 => ⟨_, _, rfl, rfl, ⟨by decide, by decide⟩, _, _, rfl, rfl, (by show (0 : Int) < 2; decide), rfl, _, rfl, ite2 (fun _ => ?_) (fun _ => ?_)⟩⟩
  · refine ⟨_, e4, ra, _, rfl, .inl (SqL.of (s1 _ _ hr)), fun l1 hl1 => ?_⟩
    exact k l1 r _ rfl (s1.trans (same_new hl1 _)) upd_same
  · have q := k h0 zs H1 ez s1 (s1 _ _ hz)
    rw [set_self e7] at q
    exact q
seal L2.PSs L2.PS L2.PE L2.PA L2.PT L2.PG L2.PF L2.PI
theorem ok_law {f f1 f2 f3 f4 f5 f6 f7 f8 f9 f10 f11 f12 : Addr} {fd d1 d2 d3 d4 d5 d6 d7 d8 d9 d10 d11 d12 : FuncData} (F : Fun K "law" "law" sd_law f fd) (B : Blt mg)
    (G_count_of : FnOk P w K mg base CX0 2 f1 d1 ["_law_script"] (spCount K)) (M_count_of : MG K mg "_law_count_of" ["_law_script"] f1 d1)
    (G_with_others : FnOk P w K mg base CX0 3 f2 d2 ["_law_script", "_law_world"] (spOthers K)) (M_with_others : MG K mg "_law_with_others" ["_law_script", "_law_world"] f2 d2)
    (G_world_of : FnOk P w K mg base CX0 4 f3 d3 ["_law_count", "_law_script"] (spWorld K)) (M_world_of : MG K mg "_law_world_of" ["_law_count", "_law_script"] f3 d3)
    (G_truth_rows : FnOk P w K mg base CX0 2 f4 d4 ["_law_cells", "_law_count"] (spRows K)) (M_truth_rows : MG K mg "_law_truth_rows" ["_law_cells", "_law_count"] f4 d4)
    (G_copy_of : FnOk P w K mg base CX0 1 f5 d5 ["_law_world"] spCopy) (M_copy_of : MG K mg "_law_copy_of" ["_law_world"] f5 d5)
    (G_some_again : FnOk P w K mg base CX0 20 f6 d6 ["world", "here"] (spAgain saR)) (M_some_again : MG K mg "some_again" ["world", "here"] f6 d6)
    (G_same : FnOk P w K mg base CX0 2 f7 d7 ["_law_found", "_law_due"] spSame) (M_same : MG K mg "_law_same" ["_law_found", "_law_due"] f7 d7)
    (G_are_labels : FnOk P w K mg base CX0 2 f8 d8 ["_law_found", "_law_world"] spAre) (M_are_labels : MG K mg "_law_are_labels" ["_law_found", "_law_world"] f8 d8)
    (G_some_again_right : FnOk P w K mg base CX0 2 f9 d9 ["_law_here", "_law_labels", "_law_k", "_law_doors"] spSa) (M_some_again_right : MG K mg "_law_some_again_right" ["_law_here", "_law_labels", "_law_k", "_law_doors"] f9 d9)
    (G_at : FnOk P w K mg base CX0 1 f10 d10 ["_law_script", "_law_k"] (spAt K)) (M_at : MG K mg "_law_at" ["_law_script", "_law_k"] f10 d10)
    (G_way_of : FnOk P w K mg base CX0 1 f11 d11 ["_law_world", "_law_start", "_law_cells"] (spWay K)) (M_way_of : MG K mg "_law_way_of" ["_law_world", "_law_start", "_law_cells"] f11 d11)
    (G_on_way : FnOk P w K mg base CX0 1 f12 d12 ["_law_sort", "_law_rows", "_law_way"] spOn) (M_on_way : MG K mg "_law_on_way" ["_law_sort", "_law_rows", "_law_way"] f12 d12) :
    FnOk P w K mg base CX0 22 f fd ["_law_script"] (spLaw K) := by
  refine F.ok sc_law (fun vs H Q E h => ?_) (fun cdv A outer s H vs Q E hr h => ?_)
  · obtain ⟨a, ns, rfl, _⟩ := h
    rfl
  obtain ⟨a, ns, rfl, hS, hl, q⟩ := h
  refine ⟨_, 
    (pss_cons (ps_set (i := 1) sc_law.nd rfl (Or.inl rfl) (pe_call G_count_of (hr.mono (by decide)) rfl M_count_of.m M_count_of.k M_count_of.b .nil pass0 (pa_cons (pv 0) pa_nil)))
    (pss_cons (ps_set (i := 2) sc_law.nd rfl (Or.inl rfl) (pe_call G_with_others (hr.mono (by decide)) rfl M_with_others.m M_with_others.k M_with_others.b .nil pass0 (pa_cons (pv 0) (pa_cons (pe_call G_world_of (hr.mono (by decide)) rfl M_world_of.m M_world_of.k M_world_of.b .nil pass0 (pa_cons (pv 1) (pa_cons (pv 0) pa_nil))) pa_nil))))
    (pss_cons (ps_asg (pe_call G_truth_rows (hr.mono (by decide)) rfl M_truth_rows.m M_truth_rows.k M_truth_rows.b .nil pass0 (pa_cons (pe_slice sl_list (pv 0) (po_some pe_int) (po_some pe_int)) (pa_cons (pv 1) pa_nil))) (pg_tup (n := 2) rfl (pgs_cons (pg_name (i := 3) sc_law.nd rfl (Or.inr rfl)) (pgs_cons (pg_name (i := 4) sc_law.nd rfl (Or.inr rfl)) pgs_nil))))
    (pss_cons (ps_set (i := 5) sc_law.nd rfl (Or.inl rfl) (pe_call G_copy_of (hr.mono (by decide)) rfl M_copy_of.m M_copy_of.k M_copy_of.b .nil pass0 (pa_cons (pv 2) pa_nil)))
    (pss_cons (ps_comp (i := 7) sc_law.nd rfl rfl rfl cs_law_0 rfl rfl (pi_range1 rfl B.range (pa_cons (pv 1) pa_nil)) (fun _ _ _ _ _ => pg_name (i := 0) cs_law_0.nd rfl (Or.inl rfl)) (fun _ _ _ _ _ => pf_nil) (fun _ _ _ _ _ => (pe_cmpR op_ne (pe_ix cix_list (pv 1) (pv 0) (fun _ _ => rfl)) (pe_ix cix_list (pv 2) (pv 0) (fun _ _ => rfl)) (nomark _))))
    (pss_cons (ps_weak (ps_if (pt_cmpR op_eq (pe_op op_mod (pe_op op_fdiv (pe_call G_at (hr.mono (by decide)) rfl M_at.m M_at.k M_at.b .nil pass0 (pa_cons (pv 0) (pa_cons pe_int pa_nil))) pe_int) pe_int) pe_int (nomark _))
    (pss_one (ps_set (i := 7) sc_law.nd rfl (Or.inl rfl) (pe_callTy call_list_of rfl B.list bList (pa_cons (pv 4) pa_nil))))
    pss_nil) (wk_here (K := K)))
    (pss_cons (ps_set (i := 8) sc_law.nd rfl (Or.inl rfl) (pe_callTy call_list_of rfl B.list bList (pa_cons (pv 7) pa_nil)))
    (pss_cons (ps_set (i := 9) sc_law.nd rfl (Or.inl rfl) (pe_call G_some_again (hr.mono (by decide)) rfl M_some_again.m M_some_again.k M_some_again.b .nil pass0 (pa_cons (pv 5) (pa_cons (pv 8) pa_nil))))
    (pss_cons (ps_if (PW.pt (pw_or (pt_not (pt_val (pe_call G_same (hr.mono (by decide)) rfl M_same.m M_same.k M_same.b .nil pass0 (pa_cons (pv 5) (pa_cons (pv 2) pa_nil))))) (pw_or1 (pt_not (pt_val (pe_call G_same (hr.mono (by decide)) rfl M_same.m M_same.k M_same.b .nil pass0 (pa_cons (pv 8) (pa_cons (pv 7) pa_nil))))))))
    (pss_one (ps_ret pe_bl))
    pss_nil)
    (pss_cons (ps_if (pt_not (pt_val (pe_call G_are_labels (hr.mono (by decide)) rfl M_are_labels.m M_are_labels.k M_are_labels.b .nil pass0 (pa_cons (pv 9) (pa_cons (pv 2) pa_nil)))))
    (pss_one (ps_ret pe_bl))
    pss_nil)
    (pss_cons (ps_for PassesOwn.never rfl (pi_range1 rfl B.range (pa_cons (pv 1) pa_nil)) (pg_name (i := 6) sc_law.nd rfl (Or.inl rfl))
    (pss_one (ps_if (pt_not (pt_val (pe_call G_some_again_right (hr.mono (by decide)) rfl M_some_again_right.m M_some_again_right.k M_some_again_right.b .nil pass0 (pa_cons (pv 7) (pa_cons (pv 9) (pa_cons (pv 6) (pa_cons (pe_ix ix_tup (pe_ix ix_list (pv 2) (pv 6) (fun _ _ => rfl)) pe_int (fun _ _ => rfl)) pa_nil)))))))
    (pss_one (ps_ret pe_bl))
    pss_nil)))
    (pss_cons (ps_set (i := 10) sc_law.nd rfl (Or.inl rfl) (pe_op op_mod (pe_call G_at (hr.mono (by decide)) rfl M_at.m M_at.k M_at.b .nil pass0 (pa_cons (pv 0) (pa_cons pe_int pa_nil))) (pv 1)))
    (pss_cons (ps_set (i := 11) sc_law.nd rfl (Or.inl rfl) (pe_call G_way_of (hr.mono (by decide)) rfl M_way_of.m M_way_of.k M_way_of.b .nil pass0 (pa_cons (pv 2) (pa_cons (pv 10) (pa_cons (pe_slice sl_list (pv 0) (po_some pe_int) po_none) pa_nil)))))
    (pss_one (ps_ret (pe_or (pe_ix ix_tup (pe_ix ix_list (pv 9) (pv 10) (fun _ _ => rfl)) pe_int (fun _ _ => rfl)) (pe_one (pe_not (pe_call G_on_way (hr.mono (by decide)) rfl M_on_way.m M_on_way.k M_on_way.b .nil pass0 (pa_cons pe_str (pa_cons (pe_lst (pa_cons (pv 7) pa_nil)) (pa_cons (pv 11) pa_nil)))))))))))))))))))))), ?_⟩
  refine ⟨_, rfl, a, ns, rfl, hS, by omega, fun n H1 n1 n40 s1 => ?_⟩
  refine ⟨_, rfl, _, rfl, _, rfl, a, ns, n, rfl, s1.seq hS, by omega, n1, by omega, fun v W0 H2 s2 dv hW0 => ?_⟩
  obtain ⟨b0, rfl⟩ := lst_ref dv
  have S2 := s1.trans s2
  refine ⟨a, b0, ns, W0, n, rfl, S2.seq hS, by omega, dv, hW0, by omega, fun v W H3 s3 dW hW => ?_⟩
  clear dv hW0
  obtain ⟨b, rfl⟩ := lst_ref dW
  have S3 := S2.trans s3
  -- the rows
  refine ⟨_, rfl, _, rfl, _, rfl, a, _, rfl, S3.seq hS, fun c hc => ?_⟩
  obtain ⟨cs, ecs, lcs⟩ := cut_ints ns (some 3) (some 13)
  rw [ecs]
  have s4 := same_new hc (.lst (cs.map V.int))
  have hc4 : upd H3 c (.lst (cs.map V.int)) c = some (.lst (cs.map V.int)) := upd_same
  generalize upd H3 c (.lst (cs.map V.int)) = H4 at s4 hc4
  refine ⟨_, rfl, c, cs, n, rfl, SqL.of hc4, by omega, by omega, fun v l r H5 ll lr s5 dv => ?_⟩
  obtain ⟨tv, tvs, rfl, etv, dtv⟩ := DAt.tup_inv dv
  cases dtv with | cons dl dtv => cases dtv with | cons dr' dtv =>
  cases dtv
  obtain ⟨la, rfl, el⟩ := dl.bools_at
  obtain ⟨ra, rfl, er⟩ := dr'.bools_at
  refine ⟨tv, _, rfl, SqT.of etv, rfl, _, _, rfl, _, _, rfl, rfl, ?_⟩
  have S5 := S3.trans (s4.trans s5)
  have dW5 := dW.mono (s4.trans s5)
  -- copies
  refine ⟨_, rfl, b, W, rfl, dW5, by rw [hW.len]; omega, fun v H6 s6 dh => ?_⟩
  obtain ⟨ha, rfl⟩ := lst_ref dh
  -- the row
  have el6 := s6 _ _ el
  have er6 := s6 _ _ er
  refine ⟨_, rfl, n, rfl, by omega, by omega, fun D hD => ?_⟩
  refine comp_range (lo := 0) (n := n) (fun j es τ H' => ∃ zs : List Bool, zs.length = j ∧ es = zs.map V.bl ∧ H' D = some (.lst es) ∧ Same H6 H' ∧ ∃ v, τ = [v, some (.ref la), some (.ref ra)]) ⟨[], rfl, rfl, upd_same, same_new hD _, none, rfl⟩ ?_ ?_
  · rintro j es τ H7 hj ⟨zs, ez, rfl, hD7, s7, v, rfl⟩
    have lz : (zs.map V.bl).length = j := by rw [List.length_map, ez]
    have i1 : atI (l.map V.bl) (0 + (j : Int)) = some (V.bl (l[j]'(by omega))) := atI_of (map_nth (by omega)) (by omega)
    have i2 : atI (r.map V.bl) (0 + (j : Int)) = some (V.bl (r[j]'(by omega))) := atI_of (map_nth (by omega)) (by omega)
    refine ⟨_, rfl, _, rfl, la, _, _, _, rfl, rfl, SqL.of (s7 _ _ el6), i1, _, rfl, _, rfl, ra, _, _, _, rfl, rfl, SqL.of (s7 _ _ er6), i2, rfl, hD7, line_lt (by omega), ?_⟩
    refine ⟨zs ++ [!decide (V.bl (l[j]'(by omega)) = V.bl (r[j]'(by omega)))], ?_, ?_, upd_same, same_upd s7 hD _, _, rfl⟩
    · rw [List.length_append, ez]; rfl
    · rw [List.map_append]; rfl
  rintro es τ H7 ⟨zs, ez, rfl, hD7, s7, v, rfl⟩
  refine ⟨a, ra, D, ns, r, zs, rfl, (S5.trans (s6.trans s7)).seq hS, by omega, rfl, s7 _ _ er6, rfl, hD7, by omega, fun hd here H8 lh s8 eh => ?_⟩
  rw [lr] at lh
  clear hD7 hD
  have S8 : Same H5 H8 := s6.trans (s7.trans s8)
  refine ⟨_, rfl, hd, _, rfl, .inl (SqL.of eh), fun l1 hl1 => ?_⟩
  have s8b := same_new hl1 (.lst (here.map V.bl))
  have e1 : upd H8 l1 (.lst (here.map V.bl)) l1 = some (.lst (here.map V.bl)) := upd_same
  have eh1 := s8b _ _ eh
  generalize upd H8 l1 (.lst (here.map V.bl)) = H8' at s8b e1 eh1
  -- the program
  have dh8 := dh.mono (s7.trans (s8.trans s8b))
  refine ⟨_, rfl, _, rfl, ha, l1, n, W, here, rfl, dh8, hW, n1, n40, e1, lh, fun v L H9 s9 dL lL okL RL => ?_⟩
  obtain ⟨fa, rfl⟩ := lst_ref dL
  have T9 : Same H5 H9 := S8.trans (s8b.trans s9)
  have dW9 := dW5.mono T9
  have eh9 := s9 _ _ eh1
  -- what was handed in is as it was
  refine ⟨_, rfl, _, rfl, .ref ha, .ref b, wdat W, rfl, dh8.mono s9, dW9, ?_, fun H10 s10 => ?_⟩
  · have q1 := wdat_wt hW
    have q3 : n * (2 * 200 + 3) ≤ 40 * (2 * 200 + 3) := Nat.mul_le_mul_right _ n40
    omega
  refine ⟨_, rfl, iteF ?_⟩
  refine ⟨_, rfl, _, rfl, .ref l1, .ref hd, dbools here, rfl, .of_bools (s10 _ _ (s9 _ _ e1)), .of_bools (s10 _ _ eh9), ?_, fun H10b s10b => ⟨_, rfl, iteF ?_⟩⟩
  · rw [dbools_wt]
    omega
  have T10 := s10.trans s10b
  have dL10 := dL.mono T10
  have dW10 := dW9.mono T10
  have S10 : Same H H10b := S5.trans (T9.trans T10)
  refine ⟨_, rfl, _, rfl, fa, b, L, W, rfl, dL10, dW10, by omega, ⟨true, by rw [ar_true lL hW.len okL], iteF ?_⟩⟩
  -- every label
  refine ⟨_, rfl, n, rfl, by omega, by omega, for_range (lo := 0) (n := n) (fun i σ' H' => (∃ o6, σ' = [some (.ref a), some (.int (n : Int)), some (.ref b), some (.ref la), some (.ref ra), some (.ref ha), o6, some (.ref hd), some (.ref l1), some (.ref fa), none, none]) ∧ Same H10b H') ⟨⟨_, rfl⟩, Same.refl _⟩ ?_ ?_⟩
  · rintro i σ' H11 hi ⟨⟨o6, rfl⟩, s11⟩
    obtain ⟨us, t, m, d, hb, eat, et, ed, inn, few⟩ := doors_at (dW10.mono s11) hW hi
    refine ⟨_, rfl, _, rfl, _, rfl, _, rfl, _, rfl, b, us, _, _, rfl, rfl, SqL.of hb, (by rw [Int.zero_add]; exact eat), t, _, _, _, rfl, rfl, SqT.of et, at1, hd, fa, d, i, n, here, L, dr W i, (by rw [Int.zero_add]; rfl), s11 _ _ (T10 _ _ eh9), lh,
      ⟨dL10.mono s11, ed, lL, hi, inn, own_of (okL i hi) inn, by omega⟩, fun H12 s12 => ⟨true, by rw [RL i hi], iteF ⟨⟨_, rfl⟩, s11.trans s12⟩⟩⟩
  rintro σ' H11 ⟨⟨o6, rfl⟩, s11⟩
  have S11 := S10.trans s11
  refine ⟨_, rfl, a, ns, 2, rfl, S11.seq hS, by omega, fun z H12 s12 => ⟨_, rfl, _, _, rfl, rfl, (by omega), ?_⟩⟩
  have z0 : 0 ≤ z % (n : Int) := Int.emod_nonneg _ (by omega)
  have z1 : z % (n : Int) < (n : Int) := Int.emod_lt_of_pos _ (by omega)
  obtain ⟨st, hz⟩ : ∃ st, st = z % (n : Int) := ⟨_, rfl⟩
  rw [← hz] at z0 z1
  refine ⟨_, rfl, _, rfl, _, rfl, _, rfl, a, _, rfl, (S11.trans s12).seq hS, fun c2 hc2 => ?_⟩
  obtain ⟨cs2, ecs2, lcs2⟩ := cut_ints ns (some 13) none
  rw [ecs2]
  have s13 := same_new hc2 (.lst (cs2.map V.int))
  have hc13 : upd H12 c2 (.lst (cs2.map V.int)) c2 = some (.lst (cs2.map V.int)) := upd_same
  generalize upd H12 c2 (.lst (cs2.map V.int)) = H13 at s13 hc13
  have T13 : Same H10b H13 := s11.trans (s12.trans s13)
  refine ⟨b, c2, st, n, 200, W, cs2, (by rw [hz]; rfl), dW10.mono T13, hW, by omega, z0, z1, by decide, SqL.of hc13, by omega, fun v row bk H14 s14 dv pa r0 rl cl => ?_⟩
  obtain ⟨wv, wvs, rfl, ewv, dwv⟩ := DAt.tup_inv dv
  have T14 := T13.trans s14
  obtain ⟨fa', us, e, hF, hu⟩ := DAt.lst_inv (dL10.mono T14)
  cases e
  have hst : st.toNat < L.length := by omega
  obtain ⟨u, eu, du⟩ := hu.nth hst
  obtain ⟨t, rfl, et⟩ := lbdat_inv du
  have eL : lbAt L st = L[st.toNat] := getD_eq hst
  refine ⟨_, rfl, _, rfl, fa, us, _, _, rfl, rfl, SqL.of hF, (by rw [hz] at eu hst; exact atI_of eu (by omega)), t, _, _, _, rfl, rfl, SqT.of et, at0, _, rfl, ?_⟩
  cases hb : L[st.toNat].1 with
  | true => exact iteT (q _)
  | false =>
    refine iteF ?_
    have hf : (lbAt L st).1 = false := by rw [eL]; exact hb
    have hu := sa_way RL pa r0 hf cl
    have hbk : bk < row.length := by
      obtain ⟨_, y, _, _, hy, _⟩ := cl
      exact (List.getElem?_eq_some_iff.mp hy).1
    refine ⟨_, rfl, line_le (by show 1 ≤ 16000000; decide), fun p3 hp3 => ?_⟩
    have t3 := same_new hp3 (.lst [V.ref hd])
    refine ⟨_, rfl, "again", p3, wv, [here], row, bk, n, rfl, .lst upd_same (.cons (.of_bools (t3 _ _ (T14 _ _ (T10 _ _ eh9)))) .nil), dv.mono t3, Nat.succ_pos _, lh, fun e => absurd e (by decide), pa.inn, by omega, hbk, fun H15 s15 => ⟨false, ?_, q _⟩⟩
    show V.bl (((trOf here row).drop bk).contains true) = V.bl false
    exact congrArg V.bl hu
end
end Ws

namespace Ws
open PySem L2
theorem all_mk {l : PySem.W.OpenLaw} {w : World} {K : PySem.W.Frag} {h : Heap} {mg : Str → Option Value} {fa : Addr} (X : K.In h) (G : h.Ns mainGlobals mg) (hfa : mg "law" = some (.ref fa))
    {f1 : Addr} {od1 an1 : Option Addr} {sl1 : Array (Option Value)} {oc1 kV1 dc1 pm1 cd1 ct1 : Value}
    (a1 : PySem.W.nsIn K mainGlobals "doors_of" = some (some (.ref f1))) (l1 : K.lookup f1 = some ⟨oc1, od1, .func (PySem.W.fnOf "doors_of" "doors_of" (defArgs sd_doors_of) (defBody sd_doors_of) (defScope sd_doors_of) .none kV1 dc1 pm1 an1 cd1 ct1), sl1⟩) (c1 : PySem.W.codeIn K cd1 "doors_of" = true) (k1 : PySem.W.keepIn K (.ref f1) = true)
    {f2 : Addr} {od2 an2 : Option Addr} {sl2 : Array (Option Value)} {oc2 kV2 dc2 pm2 cd2 ct2 : Value}
    (a2 : PySem.W.nsIn K mainGlobals "truths_of" = some (some (.ref f2))) (l2 : K.lookup f2 = some ⟨oc2, od2, .func (PySem.W.fnOf "truths_of" "truths_of" (defArgs sd_p_truths_of) (defBody sd_p_truths_of) (defScope sd_p_truths_of) .none kV2 dc2 pm2 an2 cd2 ct2), sl2⟩) (c2 : PySem.W.codeIn K cd2 "truths_of" = true) (k2 : PySem.W.keepIn K (.ref f2) = true)
    {f3 : Addr} {od3 an3 : Option Addr} {sl3 : Array (Option Value)} {oc3 kV3 dc3 pm3 cd3 ct3 : Value}
    (a3 : PySem.W.nsIn K mainGlobals "everywhere" = some (some (.ref f3))) (l3 : K.lookup f3 = some ⟨oc3, od3, .func (PySem.W.fnOf "everywhere" "everywhere" (defArgs sd_everywhere) (defBody sd_everywhere) (defScope sd_everywhere) .none kV3 dc3 pm3 an3 cd3 ct3), sl3⟩) (c3 : PySem.W.codeIn K cd3 "everywhere" = true) (k3 : PySem.W.keepIn K (.ref f3) = true)
    {f4 : Addr} {od4 an4 : Option Addr} {sl4 : Array (Option Value)} {oc4 kV4 dc4 pm4 cd4 ct4 : Value}
    (a4 : PySem.W.nsIn K mainGlobals "door_to" = some (some (.ref f4))) (l4 : K.lookup f4 = some ⟨oc4, od4, .func (PySem.W.fnOf "door_to" "door_to" (defArgs sd_door_to) (defBody sd_door_to) (defScope sd_door_to) .none kV4 dc4 pm4 an4 cd4 ct4), sl4⟩) (c4 : PySem.W.codeIn K cd4 "door_to" = true) (k4 : PySem.W.keepIn K (.ref f4) = true)
    {f5 : Addr} {od5 an5 : Option Addr} {sl5 : Array (Option Value)} {oc5 kV5 dc5 pm5 cd5 ct5 : Value}
    (a5 : PySem.W.nsIn K mainGlobals "joined_label" = some (some (.ref f5))) (l5 : K.lookup f5 = some ⟨oc5, od5, .func (PySem.W.fnOf "joined_label" "joined_label" (defArgs sd_joined_label) (defBody sd_joined_label) (defScope sd_joined_label) .none kV5 dc5 pm5 an5 cd5 ct5), sl5⟩) (c5 : PySem.W.codeIn K cd5 "joined_label" = true) (k5 : PySem.W.keepIn K (.ref f5) = true)
    {f6 : Addr} {od6 an6 : Option Addr} {sl6 : Array (Option Value)} {oc6 kV6 dc6 pm6 cd6 ct6 : Value}
    (a6 : PySem.W.nsIn K mainGlobals "grown_labels" = some (some (.ref f6))) (l6 : K.lookup f6 = some ⟨oc6, od6, .func (PySem.W.fnOf "grown_labels" "grown_labels" (defArgs sd_grown_labels) (defBody sd_grown_labels) (defScope sd_grown_labels) .none kV6 dc6 pm6 an6 cd6 ct6), sl6⟩) (c6 : PySem.W.codeIn K cd6 "grown_labels" = true) (k6 : PySem.W.keepIn K (.ref f6) = true)
    {f7 : Addr} {od7 an7 : Option Addr} {sl7 : Array (Option Value)} {oc7 kV7 dc7 pm7 cd7 ct7 : Value}
    (a7 : PySem.W.nsIn K mainGlobals "some_until" = some (some (.ref f7))) (l7 : K.lookup f7 = some ⟨oc7, od7, .func (PySem.W.fnOf "some_until" "some_until" (defArgs sd_some_until) (defBody sd_some_until) (defScope sd_some_until) .none kV7 dc7 pm7 an7 cd7 ct7), sl7⟩) (c7 : PySem.W.codeIn K cd7 "some_until" = true) (k7 : PySem.W.keepIn K (.ref f7) = true)
    {f8 : Addr} {od8 an8 : Option Addr} {sl8 : Array (Option Value)} {oc8 kV8 dc8 pm8 cd8 ct8 : Value}
    (a8 : PySem.W.nsIn K mainGlobals "reaching" = some (some (.ref f8))) (l8 : K.lookup f8 = some ⟨oc8, od8, .func (PySem.W.fnOf "reaching" "reaching" (defArgs sd_reaching) (defBody sd_reaching) (defScope sd_reaching) .none kV8 dc8 pm8 an8 cd8 ct8), sl8⟩) (c8 : PySem.W.codeIn K cd8 "reaching" = true) (k8 : PySem.W.keepIn K (.ref f8) = true)
    {f9 : Addr} {od9 an9 : Option Addr} {sl9 : Array (Option Value)} {oc9 kV9 dc9 pm9 cd9 ct9 : Value}
    (a9 : PySem.W.nsIn K mainGlobals "most_times" = some (some (.ref f9))) (l9 : K.lookup f9 = some ⟨oc9, od9, .func (PySem.W.fnOf "most_times" "most_times" (defArgs sd_most_times) (defBody sd_most_times) (defScope sd_most_times) .none kV9 dc9 pm9 an9 cd9 ct9), sl9⟩) (c9 : PySem.W.codeIn K cd9 "most_times" = true) (k9 : PySem.W.keepIn K (.ref f9) = true)
    {f10 : Addr} {od10 an10 : Option Addr} {sl10 : Array (Option Value)} {oc10 kV10 dc10 pm10 cd10 ct10 : Value}
    (a10 : PySem.W.nsIn K mainGlobals "some_again" = some (some (.ref f10))) (l10 : K.lookup f10 = some ⟨oc10, od10, .func (PySem.W.fnOf "some_again" "some_again" (defArgs sd_some_again) (defBody sd_some_again) (defScope sd_some_again) .none kV10 dc10 pm10 an10 cd10 ct10), sl10⟩) (c10 : PySem.W.codeIn K cd10 "some_again" = true) (k10 : PySem.W.keepIn K (.ref f10) = true)
    {f11 : Addr} {od11 an11 : Option Addr} {sl11 : Array (Option Value)} {oc11 kV11 dc11 pm11 cd11 ct11 : Value}
    (a11 : PySem.W.nsIn K mainGlobals "_law_draw" = some (some (.ref f11))) (l11 : K.lookup f11 = some ⟨oc11, od11, .func (PySem.W.fnOf "_law_draw" "_law_draw" (defArgs sd_draw) (defBody sd_draw) (defScope sd_draw) .none kV11 dc11 pm11 an11 cd11 ct11), sl11⟩) (c11 : PySem.W.codeIn K cd11 "_law_draw" = true) (k11 : PySem.W.keepIn K (.ref f11) = true)
    {f12 : Addr} {od12 an12 : Option Addr} {sl12 : Array (Option Value)} {oc12 kV12 dc12 pm12 cd12 ct12 : Value}
    (a12 : PySem.W.nsIn K mainGlobals "_law_whole" = some (some (.ref f12))) (l12 : K.lookup f12 = some ⟨oc12, od12, .func (PySem.W.fnOf "_law_whole" "_law_whole" (defArgs sd_whole) (defBody sd_whole) (defScope sd_whole) .none kV12 dc12 pm12 an12 cd12 ct12), sl12⟩) (c12 : PySem.W.codeIn K cd12 "_law_whole" = true) (k12 : PySem.W.keepIn K (.ref f12) = true)
    {f13 : Addr} {od13 an13 : Option Addr} {sl13 : Array (Option Value)} {oc13 kV13 dc13 pm13 cd13 ct13 : Value}
    (a13 : PySem.W.nsIn K mainGlobals "_law_at" = some (some (.ref f13))) (l13 : K.lookup f13 = some ⟨oc13, od13, .func (PySem.W.fnOf "_law_at" "_law_at" (defArgs sd_at) (defBody sd_at) (defScope sd_at) .none kV13 dc13 pm13 an13 cd13 ct13), sl13⟩) (c13 : PySem.W.codeIn K cd13 "_law_at" = true) (k13 : PySem.W.keepIn K (.ref f13) = true)
    {f14 : Addr} {od14 an14 : Option Addr} {sl14 : Array (Option Value)} {oc14 kV14 dc14 pm14 cd14 ct14 : Value}
    (a14 : PySem.W.nsIn K mainGlobals "_law_same" = some (some (.ref f14))) (l14 : K.lookup f14 = some ⟨oc14, od14, .func (PySem.W.fnOf "_law_same" "_law_same" (defArgs sd_same) (defBody sd_same) (defScope sd_same) .none kV14 dc14 pm14 an14 cd14 ct14), sl14⟩) (c14 : PySem.W.codeIn K cd14 "_law_same" = true) (k14 : PySem.W.keepIn K (.ref f14) = true)
    {f15 : Addr} {od15 an15 : Option Addr} {sl15 : Array (Option Value)} {oc15 kV15 dc15 pm15 cd15 ct15 : Value}
    (a15 : PySem.W.nsIn K mainGlobals "_law_first_mark" = some (some (.ref f15))) (l15 : K.lookup f15 = some ⟨oc15, od15, .func (PySem.W.fnOf "_law_first_mark" "_law_first_mark" (defArgs sd_first_mark) (defBody sd_first_mark) (defScope sd_first_mark) .none kV15 dc15 pm15 an15 cd15 ct15), sl15⟩) (c15 : PySem.W.codeIn K cd15 "_law_first_mark" = true) (k15 : PySem.W.keepIn K (.ref f15) = true)
    {f16 : Addr} {od16 an16 : Option Addr} {sl16 : Array (Option Value)} {oc16 kV16 dc16 pm16 cd16 ct16 : Value}
    (a16 : PySem.W.nsIn K mainGlobals "_law_count_of" = some (some (.ref f16))) (l16 : K.lookup f16 = some ⟨oc16, od16, .func (PySem.W.fnOf "_law_count_of" "_law_count_of" (defArgs sd_count_of) (defBody sd_count_of) (defScope sd_count_of) .none kV16 dc16 pm16 an16 cd16 ct16), sl16⟩) (c16 : PySem.W.codeIn K cd16 "_law_count_of" = true) (k16 : PySem.W.keepIn K (.ref f16) = true)
    {f17 : Addr} {od17 an17 : Option Addr} {sl17 : Array (Option Value)} {oc17 kV17 dc17 pm17 cd17 ct17 : Value}
    (a17 : PySem.W.nsIn K mainGlobals "_law_line_of" = some (some (.ref f17))) (l17 : K.lookup f17 = some ⟨oc17, od17, .func (PySem.W.fnOf "_law_line_of" "_law_line_of" (defArgs sd_line_of) (defBody sd_line_of) (defScope sd_line_of) .none kV17 dc17 pm17 an17 cd17 ct17), sl17⟩) (c17 : PySem.W.codeIn K cd17 "_law_line_of" = true) (k17 : PySem.W.keepIn K (.ref f17) = true)
    {f18 : Addr} {od18 an18 : Option Addr} {sl18 : Array (Option Value)} {oc18 kV18 dc18 pm18 cd18 ct18 : Value}
    (a18 : PySem.W.nsIn K mainGlobals "_law_world_of" = some (some (.ref f18))) (l18 : K.lookup f18 = some ⟨oc18, od18, .func (PySem.W.fnOf "_law_world_of" "_law_world_of" (defArgs sd_world_of) (defBody sd_world_of) (defScope sd_world_of) .none kV18 dc18 pm18 an18 cd18 ct18), sl18⟩) (c18 : PySem.W.codeIn K cd18 "_law_world_of" = true) (k18 : PySem.W.keepIn K (.ref f18) = true)
    {f19 : Addr} {od19 an19 : Option Addr} {sl19 : Array (Option Value)} {oc19 kV19 dc19 pm19 cd19 ct19 : Value}
    (a19 : PySem.W.nsIn K mainGlobals "_law_copy_of" = some (some (.ref f19))) (l19 : K.lookup f19 = some ⟨oc19, od19, .func (PySem.W.fnOf "_law_copy_of" "_law_copy_of" (defArgs sd_copy_of) (defBody sd_copy_of) (defScope sd_copy_of) .none kV19 dc19 pm19 an19 cd19 ct19), sl19⟩) (c19 : PySem.W.codeIn K cd19 "_law_copy_of" = true) (k19 : PySem.W.keepIn K (.ref f19) = true)
    {f20 : Addr} {od20 an20 : Option Addr} {sl20 : Array (Option Value)} {oc20 kV20 dc20 pm20 cd20 ct20 : Value}
    (a20 : PySem.W.nsIn K mainGlobals "_law_are_labels" = some (some (.ref f20))) (l20 : K.lookup f20 = some ⟨oc20, od20, .func (PySem.W.fnOf "_law_are_labels" "_law_are_labels" (defArgs sd_are_labels) (defBody sd_are_labels) (defScope sd_are_labels) .none kV20 dc20 pm20 an20 cd20 ct20), sl20⟩) (c20 : PySem.W.codeIn K cd20 "_law_are_labels" = true) (k20 : PySem.W.keepIn K (.ref f20) = true)
    {f21 : Addr} {od21 an21 : Option Addr} {sl21 : Array (Option Value)} {oc21 kV21 dc21 pm21 cd21 ct21 : Value}
    (a21 : PySem.W.nsIn K mainGlobals "_law_lower" = some (some (.ref f21))) (l21 : K.lookup f21 = some ⟨oc21, od21, .func (PySem.W.fnOf "_law_lower" "_law_lower" (defArgs sd_lower) (defBody sd_lower) (defScope sd_lower) .none kV21 dc21 pm21 an21 cd21 ct21), sl21⟩) (c21 : PySem.W.codeIn K cd21 "_law_lower" = true) (k21 : PySem.W.keepIn K (.ref f21) = true)
    {f22 : Addr} {od22 an22 : Option Addr} {sl22 : Array (Option Value)} {oc22 kV22 dc22 pm22 cd22 ct22 : Value}
    (a22 : PySem.W.nsIn K mainGlobals "_law_some_again_right" = some (some (.ref f22))) (l22 : K.lookup f22 = some ⟨oc22, od22, .func (PySem.W.fnOf "_law_some_again_right" "_law_some_again_right" (defArgs sd_some_again_right) (defBody sd_some_again_right) (defScope sd_some_again_right) .none kV22 dc22 pm22 an22 cd22 ct22), sl22⟩) (c22 : PySem.W.codeIn K cd22 "_law_some_again_right" = true) (k22 : PySem.W.keepIn K (.ref f22) = true)
    {f23 : Addr} {od23 an23 : Option Addr} {sl23 : Array (Option Value)} {oc23 kV23 dc23 pm23 cd23 ct23 : Value}
    (a23 : PySem.W.nsIn K mainGlobals "_law_truth_rows" = some (some (.ref f23))) (l23 : K.lookup f23 = some ⟨oc23, od23, .func (PySem.W.fnOf "_law_truth_rows" "_law_truth_rows" (defArgs sd_truth_rows) (defBody sd_truth_rows) (defScope sd_truth_rows) .none kV23 dc23 pm23 an23 cd23 ct23), sl23⟩) (c23 : PySem.W.codeIn K cd23 "_law_truth_rows" = true) (k23 : PySem.W.keepIn K (.ref f23) = true)
    {f24 : Addr} {od24 an24 : Option Addr} {sl24 : Array (Option Value)} {oc24 kV24 dc24 pm24 cd24 ct24 : Value}
    (a24 : PySem.W.nsIn K mainGlobals "_law_on_way" = some (some (.ref f24))) (l24 : K.lookup f24 = some ⟨oc24, od24, .func (PySem.W.fnOf "_law_on_way" "_law_on_way" (defArgs sd_on_way) (defBody sd_on_way) (defScope sd_on_way) .none kV24 dc24 pm24 an24 cd24 ct24), sl24⟩) (c24 : PySem.W.codeIn K cd24 "_law_on_way" = true) (k24 : PySem.W.keepIn K (.ref f24) = true)
    {f25 : Addr} {od25 an25 : Option Addr} {sl25 : Array (Option Value)} {oc25 kV25 dc25 pm25 cd25 ct25 : Value}
    (a25 : PySem.W.nsIn K mainGlobals "_law_way_of" = some (some (.ref f25))) (l25 : K.lookup f25 = some ⟨oc25, od25, .func (PySem.W.fnOf "_law_way_of" "_law_way_of" (defArgs sd_way_of) (defBody sd_way_of) (defScope sd_way_of) .none kV25 dc25 pm25 an25 cd25 ct25), sl25⟩) (c25 : PySem.W.codeIn K cd25 "_law_way_of" = true) (k25 : PySem.W.keepIn K (.ref f25) = true)
    {f26 : Addr} {od26 an26 : Option Addr} {sl26 : Array (Option Value)} {oc26 kV26 dc26 pm26 cd26 ct26 : Value}
    (a26 : PySem.W.nsIn K mainGlobals "_law_with_others" = some (some (.ref f26))) (l26 : K.lookup f26 = some ⟨oc26, od26, .func (PySem.W.fnOf "_law_with_others" "_law_with_others" (defArgs sd_with_others) (defBody sd_with_others) (defScope sd_with_others) .none kV26 dc26 pm26 an26 cd26 ct26), sl26⟩) (c26 : PySem.W.codeIn K cd26 "_law_with_others" = true) (k26 : PySem.W.keepIn K (.ref f26) = true)
    {f27 : Addr} {od27 an27 : Option Addr} {sl27 : Array (Option Value)} {oc27 kV27 dc27 pm27 cd27 ct27 : Value}
    (a27 : PySem.W.nsIn K mainGlobals "law" = some (some (.ref f27))) (l27 : K.lookup f27 = some ⟨oc27, od27, .func (PySem.W.fnOf "law" "law" (defArgs sd_law) (defBody sd_law) (defScope sd_law) .none kV27 dc27 pm27 an27 cd27 ct27), sl27⟩) (c27 : PySem.W.codeIn K cd27 "law" = true) (k27 : PySem.W.keepIn K (.ref f27) = true)
    (z1 : PySem.W.nsIn K mainGlobals "list" = some none) (z2 : PySem.W.nsIn K mainGlobals "tuple" = some none) (z3 : PySem.W.nsIn K mainGlobals "int" = some none) (z4 : PySem.W.nsIn K mainGlobals "bool" = some none) (z5 : PySem.W.nsIn K mainGlobals "str" = some none) (z6 : PySem.W.nsIn K mainGlobals "len" = some none) (z7 : PySem.W.nsIn K mainGlobals "isinstance" = some none) (z8 : PySem.W.nsIn K mainGlobals "sum" = some none) (z9 : PySem.W.nsIn K mainGlobals "range" = some none) (z10 : PySem.W.nsIn K mainGlobals "min" = some none) (z11 : PySem.W.nsIn K mainGlobals "max" = some none) (z12 : PySem.W.nsIn K mainGlobals "all" = some none) (z13 : PySem.W.nsIn K mainGlobals "any" = some none) :
    ∃ fd : FuncData, (∀ (s : Shared) (v : Value), BindsTo s fd ⟨[v], []⟩ [("_law_script", v)]) ∧ ∀ base : Heap, K.In base → base.Ns mainGlobals mg → FnOk l.prog w K mg base CX0 22 fa fd ["_law_script"] (spLaw K) := by
  have e := hfa.symm.trans (PySem.W.mg_of X G a27)
  cases e
  have B : Blt mg := ⟨PySem.W.mg_none_of X G z1, PySem.W.mg_none_of X G z2, PySem.W.mg_none_of X G z3, PySem.W.mg_none_of X G z4, PySem.W.mg_none_of X G z5, PySem.W.mg_none_of X G z6, PySem.W.mg_none_of X G z7, PySem.W.mg_none_of X G z8, PySem.W.mg_none_of X G z9, PySem.W.mg_none_of X G z10, PySem.W.mg_none_of X G z11⟩
  have B2 : Blt2 mg := ⟨PySem.W.mg_none_of X G z12, PySem.W.mg_none_of X G z13⟩
  have F_doors_of := fun_mk (st := sd_doors_of) l1 c1 k1
  have M_doors_of : MG K mg "doors_of" ["world", "place"] _ _ := ⟨PySem.W.mg_of X G a1, k1, F_doors_of.binds (ps := ["world", "place"]) fun _ _ _ _ _ _ us hl => match us, hl with | [_, _], _ => rfl⟩
  have F_p_truths_of := fun_mk (st := sd_p_truths_of) l2 c2 k2
  have M_p_truths_of : MG K mg "truths_of" ["labels"] _ _ := ⟨PySem.W.mg_of X G a2, k2, F_p_truths_of.binds (ps := ["labels"]) fun _ _ _ _ _ _ us hl => match us, hl with | [_], _ => rfl⟩
  have F_everywhere := fun_mk (st := sd_everywhere) l3 c3 k3
  have M_everywhere : MG K mg "everywhere" ["world"] _ _ := ⟨PySem.W.mg_of X G a3, k3, F_everywhere.binds (ps := ["world"]) fun _ _ _ _ _ _ us hl => match us, hl with | [_], _ => rfl⟩
  have F_door_to := fun_mk (st := sd_door_to) l4 c4 k4
  have M_door_to : MG K mg "door_to" ["world", "place", "wanted"] _ _ := ⟨PySem.W.mg_of X G a4, k4, F_door_to.binds (ps := ["world", "place", "wanted"]) fun _ _ _ _ _ _ us hl => match us, hl with | [_, _, _], _ => rfl⟩
  have F_joined_label := fun_mk (st := sd_joined_label) l5 c5 k5
  have M_joined_label : MG K mg "joined_label" ["world", "place", "reached", "number", "who"] _ _ := ⟨PySem.W.mg_of X G a5, k5, F_joined_label.binds (ps := ["world", "place", "reached", "number", "who"]) fun _ _ _ _ _ _ us hl => match us, hl with | [_, _, _, _, _], _ => rfl⟩
  have F_grown_labels := fun_mk (st := sd_grown_labels) l6 c6 k6
  have M_grown_labels : MG K mg "grown_labels" ["world", "left", "right", "who"] _ _ := ⟨PySem.W.mg_of X G a6, k6, F_grown_labels.binds (ps := ["world", "left", "right", "who"]) fun _ _ _ _ _ _ us hl => match us, hl with | [_, _, _, _], _ => rfl⟩
  have F_some_until := fun_mk (st := sd_some_until) l7 c7 k7
  have M_some_until : MG K mg "some_until" ["world", "left", "right"] _ _ := ⟨PySem.W.mg_of X G a7, k7, F_some_until.binds (ps := ["world", "left", "right"]) fun _ _ _ _ _ _ us hl => match us, hl with | [_, _, _], _ => rfl⟩
  have F_reaching := fun_mk (st := sd_reaching) l8 c8 k8
  have M_reaching : MG K mg "reaching" ["world", "here", "kept"] _ _ := ⟨PySem.W.mg_of X G a8, k8, F_reaching.binds (ps := ["world", "here", "kept"]) fun _ _ _ _ _ _ us hl => match us, hl with | [_, _, _], _ => rfl⟩
  have F_most_times := fun_mk (st := sd_most_times) l9 c9 k9
  have M_most_times : MG K mg "most_times" ["world", "here"] _ _ := ⟨PySem.W.mg_of X G a9, k9, F_most_times.binds (ps := ["world", "here"]) fun _ _ _ _ _ _ us hl => match us, hl with | [_, _], _ => rfl⟩
  have F_some_again := fun_mk (st := sd_some_again) l10 c10 k10
  have M_some_again : MG K mg "some_again" ["world", "here"] _ _ := ⟨PySem.W.mg_of X G a10, k10, F_some_again.binds (ps := ["world", "here"]) fun _ _ _ _ _ _ us hl => match us, hl with | [_, _], _ => rfl⟩
  have F_draw := fun_mk (st := sd_draw) l11 c11 k11
  have M_draw : MG K mg "_law_draw" ["_law_number", "_law_prime", "_law_many"] _ _ := ⟨PySem.W.mg_of X G a11, k11, F_draw.binds (ps := ["_law_number", "_law_prime", "_law_many"]) fun _ _ _ _ _ _ us hl => match us, hl with | [_, _, _], _ => rfl⟩
  have F_whole := fun_mk (st := sd_whole) l12 c12 k12
  have M_whole : MG K mg "_law_whole" ["_law_found"] _ _ := ⟨PySem.W.mg_of X G a12, k12, F_whole.binds (ps := ["_law_found"]) fun _ _ _ _ _ _ us hl => match us, hl with | [_], _ => rfl⟩
  have F_at := fun_mk (st := sd_at) l13 c13 k13
  have M_at : MG K mg "_law_at" ["_law_script", "_law_k"] _ _ := ⟨PySem.W.mg_of X G a13, k13, F_at.binds (ps := ["_law_script", "_law_k"]) fun _ _ _ _ _ _ us hl => match us, hl with | [_, _], _ => rfl⟩
  have F_same := fun_mk (st := sd_same) l14 c14 k14
  have M_same : MG K mg "_law_same" ["_law_found", "_law_due"] _ _ := ⟨PySem.W.mg_of X G a14, k14, F_same.binds (ps := ["_law_found", "_law_due"]) fun _ _ _ _ _ _ us hl => match us, hl with | [_, _], _ => rfl⟩
  have F_first_mark := fun_mk (st := sd_first_mark) l15 c15 k15
  have M_first_mark : MG K mg "_law_first_mark" ["_law_script"] _ _ := ⟨PySem.W.mg_of X G a15, k15, F_first_mark.binds (ps := ["_law_script"]) fun _ _ _ _ _ _ us hl => match us, hl with | [_], _ => rfl⟩
  have F_count_of := fun_mk (st := sd_count_of) l16 c16 k16
  have M_count_of : MG K mg "_law_count_of" ["_law_script"] _ _ := ⟨PySem.W.mg_of X G a16, k16, F_count_of.binds (ps := ["_law_script"]) fun _ _ _ _ _ _ us hl => match us, hl with | [_], _ => rfl⟩
  have F_line_of := fun_mk (st := sd_line_of) l17 c17 k17
  have M_line_of : MG K mg "_law_line_of" ["_law_count", "_law_script"] _ _ := ⟨PySem.W.mg_of X G a17, k17, F_line_of.binds (ps := ["_law_count", "_law_script"]) fun _ _ _ _ _ _ us hl => match us, hl with | [_, _], _ => rfl⟩
  have F_world_of := fun_mk (st := sd_world_of) l18 c18 k18
  have M_world_of : MG K mg "_law_world_of" ["_law_count", "_law_script"] _ _ := ⟨PySem.W.mg_of X G a18, k18, F_world_of.binds (ps := ["_law_count", "_law_script"]) fun _ _ _ _ _ _ us hl => match us, hl with | [_, _], _ => rfl⟩
  have F_copy_of := fun_mk (st := sd_copy_of) l19 c19 k19
  have M_copy_of : MG K mg "_law_copy_of" ["_law_world"] _ _ := ⟨PySem.W.mg_of X G a19, k19, F_copy_of.binds (ps := ["_law_world"]) fun _ _ _ _ _ _ us hl => match us, hl with | [_], _ => rfl⟩
  have F_are_labels := fun_mk (st := sd_are_labels) l20 c20 k20
  have M_are_labels : MG K mg "_law_are_labels" ["_law_found", "_law_world"] _ _ := ⟨PySem.W.mg_of X G a20, k20, F_are_labels.binds (ps := ["_law_found", "_law_world"]) fun _ _ _ _ _ _ us hl => match us, hl with | [_, _], _ => rfl⟩
  have F_lower := fun_mk (st := sd_lower) l21 c21 k21
  have M_lower : MG K mg "_law_lower" ["_law_ends", "_law_truth", "_law_number"] _ _ := ⟨PySem.W.mg_of X G a21, k21, F_lower.binds (ps := ["_law_ends", "_law_truth", "_law_number"]) fun _ _ _ _ _ _ us hl => match us, hl with | [_, _, _], _ => rfl⟩
  have F_some_again_right := fun_mk (st := sd_some_again_right) l22 c22 k22
  have M_some_again_right : MG K mg "_law_some_again_right" ["_law_here", "_law_labels", "_law_k", "_law_doors"] _ _ := ⟨PySem.W.mg_of X G a22, k22, F_some_again_right.binds (ps := ["_law_here", "_law_labels", "_law_k", "_law_doors"]) fun _ _ _ _ _ _ us hl => match us, hl with | [_, _, _, _], _ => rfl⟩
  have F_truth_rows := fun_mk (st := sd_truth_rows) l23 c23 k23
  have M_truth_rows : MG K mg "_law_truth_rows" ["_law_cells", "_law_count"] _ _ := ⟨PySem.W.mg_of X G a23, k23, F_truth_rows.binds (ps := ["_law_cells", "_law_count"]) fun _ _ _ _ _ _ us hl => match us, hl with | [_, _], _ => rfl⟩
  have F_on_way := fun_mk (st := sd_on_way) l24 c24 k24
  have M_on_way : MG K mg "_law_on_way" ["_law_sort", "_law_rows", "_law_way"] _ _ := ⟨PySem.W.mg_of X G a24, k24, F_on_way.binds (ps := ["_law_sort", "_law_rows", "_law_way"]) fun _ _ _ _ _ _ us hl => match us, hl with | [_, _, _], _ => rfl⟩
  have F_way_of := fun_mk (st := sd_way_of) l25 c25 k25
  have M_way_of : MG K mg "_law_way_of" ["_law_world", "_law_start", "_law_cells"] _ _ := ⟨PySem.W.mg_of X G a25, k25, F_way_of.binds (ps := ["_law_world", "_law_start", "_law_cells"]) fun _ _ _ _ _ _ us hl => match us, hl with | [_, _, _], _ => rfl⟩
  have F_with_others := fun_mk (st := sd_with_others) l26 c26 k26
  have M_with_others : MG K mg "_law_with_others" ["_law_script", "_law_world"] _ _ := ⟨PySem.W.mg_of X G a26, k26, F_with_others.binds (ps := ["_law_script", "_law_world"]) fun _ _ _ _ _ _ us hl => match us, hl with | [_, _], _ => rfl⟩
  have F_law := fun_mk (st := sd_law) l27 c27 k27
  refine ⟨PySem.W.fnOf "law" "law" (defArgs sd_law) (defBody sd_law) (defScope sd_law) .none kV27 dc27 pm27 an27 cd27 ct27, fun s v => .of_eq rfl, fun base _ _ => ?_⟩
  have G_doors_of := ok_doors_of (P := l.prog) (w := w) (mg := mg) (base := base) (F := F_doors_of)
  have G_p_truths_of := ok_p_truths_of (P := l.prog) (w := w) (mg := mg) (base := base) (F := F_p_truths_of)
  have G_everywhere := ok_everywhere (P := l.prog) (w := w) (mg := mg) (base := base) (F := F_everywhere)
  have G_door_to := ok_door_to (P := l.prog) (w := w) (mg := mg) (base := base) (F := F_door_to) (G_doors_of := G_doors_of) (M_doors_of := M_doors_of)
  have G_joined_label := ok_joined_label (P := l.prog) (w := w) (mg := mg) (base := base) (F := F_joined_label) (B2 := B2) (G_doors_of := G_doors_of) (M_doors_of := M_doors_of) (G_door_to := G_door_to) (M_door_to := M_door_to)
  have G_grown_labels := ok_grown_labels (P := l.prog) (w := w) (mg := mg) (base := base) (F := F_grown_labels) (B := B) (G_p_truths_of := G_p_truths_of) (M_p_truths_of := M_p_truths_of) (G_joined_label := G_joined_label) (M_joined_label := M_joined_label)
  have G_some_until := ok_some_until (P := l.prog) (w := w) (mg := mg) (base := base) (F := F_some_until) (G_grown_labels := G_grown_labels) (M_grown_labels := M_grown_labels)
  have G_reaching := ok_reaching (P := l.prog) (w := w) (mg := mg) (base := base) (F := F_reaching) (B := B) (G_door_to := G_door_to) (M_door_to := M_door_to) (G_everywhere := G_everywhere) (M_everywhere := M_everywhere) (G_some_until := G_some_until) (M_some_until := M_some_until)
  have G_most_times := ok_most_times (P := l.prog) (w := w) (mg := mg) (base := base) (F := F_most_times) (B := B) (G_p_truths_of := G_p_truths_of) (M_p_truths_of := M_p_truths_of) (G_reaching := G_reaching) (M_reaching := M_reaching)
  have G_some_again := ok_some_again (P := l.prog) (w := w) (mg := mg) (base := base) (F := F_some_again) (B := B) (G_most_times := G_most_times) (M_most_times := M_most_times) (G_reaching := G_reaching) (M_reaching := M_reaching) (G_door_to := G_door_to) (M_door_to := M_door_to)
  have G_draw := ok_draw (P := l.prog) (w := w) (mg := mg) (base := base) (F := F_draw)
  have G_whole := ok_whole (P := l.prog) (w := w) (mg := mg) (base := base) (F := F_whole) (B := B)
  have G_at := ok_at (P := l.prog) (w := w) (mg := mg) (base := base) (F := F_at) (B := B)
  have G_same := ok_same (P := l.prog) (w := w) (mg := mg) (base := base) (F := F_same) (B := B) (G_whole := G_whole) (M_whole := M_whole)
  have G_first_mark := ok_first_mark (P := l.prog) (w := w) (mg := mg) (base := base) (F := F_first_mark) (G_at := G_at) (M_at := M_at)
  have G_count_of := ok_count_of (P := l.prog) (w := w) (mg := mg) (base := base) (F := F_count_of) (G_at := G_at) (M_at := M_at)
  have G_line_of := ok_line_of (P := l.prog) (w := w) (mg := mg) (base := base) (F := F_line_of) (B := B) (G_at := G_at) (M_at := M_at) (G_first_mark := G_first_mark) (M_first_mark := M_first_mark) (G_draw := G_draw) (M_draw := M_draw)
  have G_world_of := ok_world_of (P := l.prog) (w := w) (mg := mg) (base := base) (F := F_world_of) (B := B) (G_at := G_at) (M_at := M_at) (G_first_mark := G_first_mark) (M_first_mark := M_first_mark) (G_draw := G_draw) (M_draw := M_draw) (G_line_of := G_line_of) (M_line_of := M_line_of)
  have G_copy_of := ok_copy_of (P := l.prog) (w := w) (mg := mg) (base := base) (F := F_copy_of) (B := B)
  have G_are_labels := ok_are_labels (P := l.prog) (w := w) (mg := mg) (base := base) (F := F_are_labels) (B := B) (G_whole := G_whole) (M_whole := M_whole)
  have G_lower := ok_lower (P := l.prog) (w := w) (mg := mg) (base := base) (F := F_lower)
  have G_some_again_right := ok_some_again_right (P := l.prog) (w := w) (mg := mg) (base := base) (F := F_some_again_right) (B := B) (G_lower := G_lower) (M_lower := M_lower)
  have G_truth_rows := ok_truth_rows (P := l.prog) (w := w) (mg := mg) (base := base) (F := F_truth_rows) (B := B) (G_at := G_at) (M_at := M_at)
  have G_on_way := ok_on_way (P := l.prog) (w := w) (mg := mg) (base := base) (F := F_on_way)
  have G_way_of := ok_way_of (P := l.prog) (w := w) (mg := mg) (base := base) (F := F_way_of) (B := B)
  have G_with_others := ok_with_others (P := l.prog) (w := w) (mg := mg) (base := base) (F := F_with_others) (B := B) (G_at := G_at) (M_at := M_at) (G_first_mark := G_first_mark) (M_first_mark := M_first_mark)
  exact ok_law (P := l.prog) (w := w) (mg := mg) (base := base) (F := F_law) (B := B) (G_count_of := G_count_of) (M_count_of := M_count_of) (G_with_others := G_with_others) (M_with_others := M_with_others) (G_world_of := G_world_of) (M_world_of := M_world_of) (G_truth_rows := G_truth_rows) (M_truth_rows := M_truth_rows) (G_copy_of := G_copy_of) (M_copy_of := M_copy_of) (G_some_again := (again_of G_some_again (by decide))) (M_some_again := M_some_again) (G_same := G_same) (M_same := M_same) (G_are_labels := G_are_labels) (M_are_labels := M_are_labels) (G_some_again_right := G_some_again_right) (M_some_again_right := M_some_again_right) (G_at := G_at) (M_at := M_at) (G_way_of := G_way_of) (M_way_of := M_way_of) (G_on_way := G_on_way) (M_on_way := M_on_way)
theorem walk {l : PySem.W.OpenLaw} {q : Program} {loose : List Str} {XP : (Str → Option Value) → Heap → Prop} {YP : World → Heap → Prop} {d : DefRec} {K : Params → PySem.W.Frag} (hn : l.most = some 63) (hdf : d.params.defaults = [])
    (hY : ∀ (w : World) (h : Heap), YP w h → (K w.params).In h)
    (F : ∀ (w : World) (mg : Str → Option Value) (fa : Addr) (h : Heap), (K w.params).In h → h.Ns mainGlobals mg → mg d.name = some (.ref fa) →
      ∃ fd : FuncData, (∀ (s : Shared) (u : Value), BindsTo s fd ⟨[u], []⟩ [("_law_script", u)]) ∧ ∀ base : Heap, (K w.params).In base → base.Ns mainGlobals mg → FnOk l.prog w (K w.params) mg base CX0 22 fa fd ["_law_script"] (spLaw (K w.params))) :
    PySem.W.WalkO q loose XP YP l.row.toRowW d [] (fun f vs => PySem.call f vs) :=
  L2.walk_of (n := 63) (k := 22) (x := "_law_script") (CX := fun _ => CX0) (sp := fun w => spLaw (K w.params)) hn (by decide) hdf ⟨rfl, by decide, by decide⟩ hY F (fun _ _ a ns hl _ hS => ⟨a, ns, rfl, hS, hl, fun _ => rfl⟩) fun _ _ _ _ _ z => z
end Ws
open PySem PySem.W PyProof.Rows
set_option maxRecDepth 100000 in
set_option maxHeartbeats 0 in
theorem PySem.Challenge.cw_waysaid_k04_some_again_holds : PySem.Challenge.rw_waysaid_k04_some_again.Holds := by
  w_on; o_law; k_head; (case hw => w_witness2)
  k_fill
  refine Ws.walk (l := PySem.Challenge.rw_waysaid_k04_some_again) rfl rfl (fun w h Y => PySem.W.kIn_of Y) ?F
  case F =>
    intro w mg fa h KX G hmg
    refine' Ws.all_mk KX G hmg ?a1 ?l1 ?c1 ?k1 ?a2 ?l2 ?c2 ?k2 ?a3 ?l3 ?c3 ?k3 ?a4 ?l4 ?c4 ?k4 ?a5 ?l5 ?c5 ?k5 ?a6 ?l6 ?c6 ?k6 ?a7 ?l7 ?c7 ?k7 ?a8 ?l8 ?c8 ?k8 ?a9 ?l9 ?c9 ?k9 ?a10 ?l10 ?c10 ?k10 ?a11 ?l11 ?c11 ?k11 ?a12 ?l12 ?c12 ?k12 ?a13 ?l13 ?c13 ?k13 ?a14 ?l14 ?c14 ?k14 ?a15 ?l15 ?c15 ?k15 ?a16 ?l16 ?c16 ?k16 ?a17 ?l17 ?c17 ?k17 ?a18 ?l18 ?c18 ?k18 ?a19 ?l19 ?c19 ?k19 ?a20 ?l20 ?c20 ?k20 ?a21 ?l21 ?c21 ?k21 ?a22 ?l22 ?c22 ?k22 ?a23 ?l23 ?c23 ?k23 ?a24 ?l24 ?c24 ?k24 ?a25 ?l25 ?c25 ?k25 ?a26 ?l26 ?c26 ?k26 ?a27 ?l27 ?c27 ?k27 ?z1 ?z2 ?z3 ?z4 ?z5 ?z6 ?z7 ?z8 ?z9 ?z10 ?z11 ?z12 ?z13
    (case a1 => k_is); (case l1 => k_is); (case c1 => k_is); (case k1 => k_is)
    (case a2 => k_is); (case l2 => k_is); (case c2 => k_is); (case k2 => k_is)
    (case a3 => k_is); (case l3 => k_is); (case c3 => k_is); (case k3 => k_is)
    (case a4 => k_is); (case l4 => k_is); (case c4 => k_is); (case k4 => k_is)
    (case a5 => k_is); (case l5 => k_is); (case c5 => k_is); (case k5 => k_is)
    (case a6 => k_is); (case l6 => k_is); (case c6 => k_is); (case k6 => k_is)
    (case a7 => k_is); (case l7 => k_is); (case c7 => k_is); (case k7 => k_is)
    (case a8 => k_is); (case l8 => k_is); (case c8 => k_is); (case k8 => k_is)
    (case a9 => k_is); (case l9 => k_is); (case c9 => k_is); (case k9 => k_is)
    (case a10 => k_is); (case l10 => k_is); (case c10 => k_is); (case k10 => k_is)
    (case a11 => k_is); (case l11 => k_is); (case c11 => k_is); (case k11 => k_is)
    (case a12 => k_is); (case l12 => k_is); (case c12 => k_is); (case k12 => k_is)
    (case a13 => k_is); (case l13 => k_is); (case c13 => k_is); (case k13 => k_is)
    (case a14 => k_is); (case l14 => k_is); (case c14 => k_is); (case k14 => k_is)
    (case a15 => k_is); (case l15 => k_is); (case c15 => k_is); (case k15 => k_is)
    (case a16 => k_is); (case l16 => k_is); (case c16 => k_is); (case k16 => k_is)
    (case a17 => k_is); (case l17 => k_is); (case c17 => k_is); (case k17 => k_is)
    (case a18 => k_is); (case l18 => k_is); (case c18 => k_is); (case k18 => k_is)
    (case a19 => k_is); (case l19 => k_is); (case c19 => k_is); (case k19 => k_is)
    (case a20 => k_is); (case l20 => k_is); (case c20 => k_is); (case k20 => k_is)
    (case a21 => k_is); (case l21 => k_is); (case c21 => k_is); (case k21 => k_is)
    (case a22 => k_is); (case l22 => k_is); (case c22 => k_is); (case k22 => k_is)
    (case a23 => k_is); (case l23 => k_is); (case c23 => k_is); (case k23 => k_is)
    (case a24 => k_is); (case l24 => k_is); (case c24 => k_is); (case k24 => k_is)
    (case a25 => k_is); (case l25 => k_is); (case c25 => k_is); (case k25 => k_is)
    (case a26 => k_is); (case l26 => k_is); (case c26 => k_is); (case k26 => k_is)
    (case a27 => k_is); (case l27 => k_is); (case c27 => k_is); (case k27 => k_is)
    (case z1 => k_is); (case z2 => k_is); (case z3 => k_is); (case z4 => k_is); (case z5 => k_is); (case z6 => k_is); (case z7 => k_is); (case z8 => k_is); (case z9 => k_is); (case z10 => k_is); (case z11 => k_is); (case z12 => k_is); (case z13 => k_is)
#print axioms PySem.Challenge.cw_waysaid_k04_some_again_holds

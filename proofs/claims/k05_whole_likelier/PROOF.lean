import PyProof.Rows.All
import Wide.All
import OpenK.AllK
import Wide.FinOn
import Lean
import PyProof.EqAt
import PyProof.EqKinds
import PyProof.TupleCall
import PySem.Challenge.RW_firstword_k05_whole_likelier
-- CHANGE: your row's module here, as the last of these rows
set_option Elab.async false
set_option linter.all false
set_option maxRecDepth 100000
/-! THE HAND LAYER, for ints, bools, texts, own classes, LISTS and tuples (index, slices, in, append, pop ..), calls, loops. Paste it whole ahead of your own text; what your proof does not reach may be deleted. -/
namespace L2
open PySem PySem.Spec PyProof.Rows

/-- a key: an int or a str -/
abbrev Key := Sum Int Str
def keyIs : Key → Value → Bool
  | .inl k, v => Value.isInt k v
  | .inr x, v => Value.isStrOf x v
def keyH (w : World) : Key → Int
  | .inl k => hashInt k
  | .inr x => hashStr w x
theorem keyIs_shape : ∀ {k : Key} {v : Value}, keyIs k v = true → (∃ i t, k = Sum.inl i ∧ v = Value.int i t) ∨ (∃ x t, k = Sum.inr x ∧ v = Value.str x t)
  | .inl i, v, h => by
    obtain ⟨t, e⟩ := Value.isInt_shape (k := i) (v := v) h
    exact .inl ⟨i, t, rfl, e⟩
  | .inr x, v, h => by
    obtain ⟨t, e⟩ := Value.isStrOf_shape (x := x) (v := v) h
    exact .inr ⟨x, t, rfl, e⟩
theorem keyIs_int (i : Int) (t : Tok) : keyIs (.inl i) (.int i t) = true := by simp [keyIs, Value.isInt]
theorem keyIs_str (x : Str) (t : Tok) : keyIs (.inr x) (.str x t) = true := by simp [keyIs, Value.isStrOf]
theorem key_ll (a b : Int) : decide ((Sum.inl a : Key) = Sum.inl b) = (a == b) := by
  by_cases e : a = b
  · subst e; simp
  · have h : ¬ (Sum.inl a : Key) = Sum.inl b := fun q => e (Sum.inl.inj q)
    rw [decide_eq_false h]
    exact (beq_eq_false_iff_ne.mpr e).symm
theorem key_rr (a b : Str) : decide ((Sum.inr a : Key) = Sum.inr b) = decide (a = b) := by
  by_cases e : a = b
  · subst e; simp
  · have h : ¬ (Sum.inr a : Key) = Sum.inr b := fun q => e (Sum.inr.inj q)
    rw [decide_eq_false h, decide_eq_false e]
theorem key_lr (a : Int) (b : Str) : decide ((Sum.inl a : Key) = Sum.inr b) = false := decide_eq_false (fun q => nomatch q)
theorem key_rl (a : Str) (b : Int) : decide ((Sum.inr a : Key) = Sum.inl b) = false := decide_eq_false (fun q => nomatch q)

def mixKind (prog : Program) (w : World) : PySem.KeyKind prog w Key where
  is := keyIs
  hash := keyH w
  inj := fun v a b ha hb => by
    rcases keyIs_shape ha with ⟨i, t, rfl, rfl⟩ | ⟨x, t, rfl, rfl⟩
    · rcases keyIs_shape hb with ⟨j, u, rfl, e⟩ | ⟨y, u, rfl, e⟩
      · injection e with e1 _; rw [e1]
      · exact nomatch e
    · rcases keyIs_shape hb with ⟨j, u, rfl, e⟩ | ⟨y, u, rfl, e⟩
      · exact nomatch e
      · injection e with e1 _; rw [e1]
  byValue := fun k v h => by
    rcases keyIs_shape h with ⟨i, t, rfl, rfl⟩ | ⟨x, t, rfl, rfl⟩ <;> rfl
  pyHash := fun hv h => by
    rcases keyIs_shape hv with ⟨i, t, rfl, rfl⟩ | ⟨x, t, rfl, rfl⟩
    · exact wpAny_pyHash_int h
    · exact wpAny_pyHash_str h
  eqBool := fun hu hv h => by
    rcases keyIs_shape hu with ⟨i, t, rfl, rfl⟩ | ⟨x, t, rfl, rfl⟩
    · rcases keyIs_shape hv with ⟨j, u, rfl, rfl⟩ | ⟨y, u, rfl, rfl⟩
      · rw [key_ll] at h; exact wpAny_eqBool_int h
      · rw [key_lr] at h; exact SeqAt.EqAt.int_str i t y u _ _ _ _ h
    · rcases keyIs_shape hv with ⟨j, u, rfl, rfl⟩ | ⟨y, u, rfl, rfl⟩
      · rw [key_rl] at h; exact SeqAt.EqAt.str_int x t j u _ _ _ _ h
      · rw [key_rr] at h; exact wpAny_eqBool_str h
  «strs» := fun k x t v h => by
    rcases keyIs_shape h with ⟨i, u, rfl, e⟩ | ⟨y, u, rfl, e⟩
    · exact nomatch e
    · injection e with e1 _
      subst e1
      cases v <;> rfl

theorem mixKind_is (prog : Program) (w : World) (k : Key) (v : Value) : (mixKind prog w).is k v = keyIs k v := rfl
theorem mixKind_int (prog : Program) (w : World) (i : Int) (t : Tok) : (mixKind prog w).is (.inl i) (.int i t) = true := keyIs_int i t
theorem mixKind_str (prog : Program) (w : World) (x : Str) (t : Tok) : (mixKind prog w).is (.inr x) (.str x t) = true := keyIs_str x t
end L2

namespace L2
open PySem PySem.Spec PyProof.Rows

/-- a value, without the heap -/
inductive V where
  | non | bl (b : Bool) | int (i : Int) | str (x : Str) | byt (b : Array UInt8) | flt (b : UInt64) | ref (a : Addr) | ty (n : String)
  deriving DecidableEq

def RelV : V → Value → Prop
  | .non, u => u = Value.none
  | .bl b, u => u = Value.bool b
  | .int i, u => ∃ t, u = Value.int i t
  | .str x, u => ∃ t, u = Value.str x t
  | .byt b, u => ∃ t, u = Value.bytes b t
  | .flt b, u => ∃ t, u = Value.float b t
  | .ref a, u => u = Value.ref a
  | .ty n, u => u = Value.type n

abbrev Vals : List V → List Value → Prop := Paired RelV
theorem Vals.length {xs : List V} {us : List Value} (r : Vals xs us) : xs.length = us.length := Paired.length r
theorem Vals.get : ∀ {xs : List V} {us : List Value} {i : Nat} {x : V}, Vals xs us → xs[i]? = some x → ∃ u, us[i]? = some u ∧ RelV x u
  | _, _, _, _, .nil, e => by simp at e
  | _, _, 0, _, .cons r _, e => by simp at e; subst e; exact ⟨_, rfl, r⟩
  | _, _, i + 1, x, .cons _ t, e => by
    obtain ⟨u, h1, h2⟩ := Vals.get (i := i) (x := x) t (by simpa using e)
    exact ⟨u, by simpa using h1, h2⟩
theorem Vals.set {x : V} {u : Value} (r : RelV x u) : ∀ {xs : List V} {us : List Value} (i : Nat), Vals xs us → Vals (xs.set i x) (us.set i u)
  | _, _, _, .nil => .nil
  | _, _, 0, .cons _ t => .cons r t
  | _, _, i + 1, .cons q t => .cons q (Vals.set r i t)
theorem Vals.append : ∀ {xs ys : List V} {us ws : List Value}, Vals xs us → Vals ys ws → Vals (xs ++ ys) (us ++ ws)
  | _, _, _, _, .nil, s => s
  | _, _, _, _, .cons r t, s => .cons r (Vals.append t s)
theorem Vals.take : ∀ {xs : List V} {us : List Value} (n : Nat), Vals xs us → Vals (xs.take n) (us.take n)
  | _, _, 0, _ => .nil
  | _, _, _ + 1, .nil => .nil
  | _, _, n + 1, .cons r t => .cons r (Vals.take n t)
theorem Vals.drop : ∀ {xs : List V} {us : List Value} (n : Nat), Vals xs us → Vals (xs.drop n) (us.drop n)
  | _, _, 0, r => r
  | _, _, _ + 1, .nil => .nil
  | _, _, n + 1, .cons _ t => Vals.drop n t
theorem Vals.none_of : ∀ {xs : List V} {us : List Value} {i : Nat}, Vals xs us → xs[i]? = none → us[i]? = none := fun {xs us i} r e => by
  have h1 := r.length
  have h2 : xs.length ≤ i := List.getElem?_eq_none_iff.mp e
  exact List.getElem?_eq_none_iff.mpr (by omega)

def RelO : Option V → Option Value → Prop
  | some v, some u => RelV v u
  | none, none => True
  | _, _ => False
def KV {κ : Type} : List (κ × V) → List (κ × Value) → Prop := Paired fun (p : κ × V) (q : κ × Value) => p.1 = q.1 ∧ RelV p.2 q.2

/-- a key of a dict (00_mix): an int or a text -/
def kV : Key → V
  | .inl i => .int i
  | .inr x => .str x

/-- what stands at a tracked address -/
inductive HO where
  /-- a list -/
  | lst (xs : List V)
  /-- a tuple (never changes) -/
  | tup (xs : List V)
  /-- a dict whose keys are ints and texts; one whose keys are tuples of ints and texts (the empty one is both) -/
  | dK (kvs : List (Key × V)) | dT (kvs : List (List Key × V))
  /-- a set of ints: its members, its size -/
  | set (S : Int → Bool) (n : Nat)
  /-- an instance of the class at C, its dict at dx, its attributes -/
  | ins (C dx : Addr) (fs : List (Str × V))
  /-- the dict of the instance at x -/
  | own (x : Addr)
  /-- the dict of an exception -/
  | xd (fs : List (Str × V))
  /-- a bound method, f of x -/
  | met (f x : Addr)
  /-- a range object lo, lo + 1, .. below hi -/
  | rng (lo hi : Int)
  /-- a thing that is known to the object (the script; a dict while a loop walks it): read, never written while it is so -/
  | frz (o : Obj) (u : HO)
  /-- a code object's table -/
  | tbl (ps : Array Value)
  /-- any other thing, by what is true of its one object (a def of one's own: SetO a S n := HO.ext fun h => ..) -/
  | ext (φ : Heap → Prop)

abbrev Hp := Addr → Option HO
def upd (H : Hp) (a : Addr) (o : HO) : Hp := fun b => if b = a then some o else H b
theorem upd_same {H : Hp} {a : Addr} {o : HO} : upd H a o a = some o := by unfold upd; rw [if_pos rfl]
theorem upd_ne {H : Hp} {a b : Addr} {o : HO} (h : b ≠ a) : upd H a o b = H b := by unfold upd; rw [if_neg h]
theorem upd_upd {H : Hp} {a : Addr} {o u : HO} : upd (upd H a o) a u = upd H a u := by
  funext b; unfold upd; split <;> rfl
/-- two objects of different content stand apart -/
theorem ne_of {H : Hp} {a b : Addr} {o u : HO} (h : H a = some o) (h' : H b = some u) (d : o ≠ u) : a ≠ b := by
  intro e; subst e; rw [h] at h'; exact d (Option.some.inj h')
theorem ne_of_none {H : Hp} {a b : Addr} {o : HO} (h : H a = some o) (h' : H b = none) : a ≠ b := by
  intro e; subst e; rw [h] at h'; cases h'

section
variable (P : Program) (w : World)
def ObjOk (H : Hp) (h : Heap) (a : Addr) : HO → Prop
  | .lst xs => xs.length ≤ sizeLine ∧ ∃ (its : List Value) (n : Nat), Vals xs its ∧ h.get? a = some { cls := .type "list", data := .seq its.toArray n }
  | .tup xs => xs.length ≤ sizeLine ∧ ∃ its : List Value, Vals xs its ∧ IsTup h a its.toArray
  | .dK kvs => kvs.length ≤ sizeLine ∧ (a == sysModules) = false ∧ ∃ vs, KV kvs vs ∧ h.DictOf (mixKind P w) a vs
  | .dT kvs => kvs.length ≤ sizeLine ∧ (a == sysModules) = false ∧ ∃ xs : List (List Key × Addr × Value),
      Paired (fun (p : List Key × V) (q : List Key × Addr × Value) => p.1 = q.1 ∧ H q.2.1 = some (.tup (p.1.map kV)) ∧ RelV p.2 q.2.2) kvs xs ∧
      ∃ o es ep, h.get? a = some o ∧ o.ExactDict ∧ o.data = .dict es ep ∧ es.toList = xs.map (entryOfKey (tupleKind (mixKind P w))) ∧ (xs.map (·.1)).Nodup
  | .set S n => h.SetOf (intKind P w) a S n
  | .ins C dx fs => H dx = some (.own a) ∧ fs.length ≤ 1000 ∧ dx ≠ a ∧ h.get? a = some (PySem.W.instObj C dx) ∧
      ∃ mA, h.Ns1 dx mA ∧ (∀ f, RelO (fs.lookup f) (mA f)) ∧ PySem.Within mA (fs.map (·.1))
  | .own _ => ∃ o, h.get? a = some o
  | .xd fs => ∃ mA, h.Ns1 a mA ∧ ∀ f, RelO (fs.lookup f) (mA f)
  | .rng lo hi => ∃ t u v, h.get? a = some { cls := .type "range", data := .fields #[.int lo t, .int hi u, .int 1 v] }
  | .frz o u => h.get? a = some o ∧ ObjOk H h a u
  | .tbl ps => h.get? a = some { cls := .none, data := .fields ps }
  | .met f x => h.get? a = some (PySem.W.methodObj (.ref f) (.ref x))
  | .ext φ => φ h ∧ (∃ o, h.get? a = some o) ∧ ∀ h1 h2 : Heap, φ h1 → (∀ o, h1.get? a = some o → h2.get? a = some o) → φ h2
/-- the abstract heap is held -/
def HOk (H : Hp) (h : Heap) : Prop := ∀ a o, H a = some o → ObjOk P w H h a o
end

section
variable {P : Program} {w : World} {H H' : Hp} {h h' : Heap} {a : Addr} {o : HO}
theorem ObjOk.lt (x : ObjOk P w H h a o) : a < h.objs.size := by
  cases o with
  | lst xs => obtain ⟨_, _, _, _, e⟩ := x; exact Heap.lt_size e
  | tup xs => obtain ⟨_, _, _, p⟩ := x; exact p.lt
  | dK kvs => obtain ⟨_, _, _, _, o, _, _, e, _⟩ := x; exact Heap.lt_size e
  | dT kvs => obtain ⟨_, _, _, _, o, _, _, e, _⟩ := x; exact Heap.lt_size e
  | set S n => obtain ⟨o, _, _, _, e, _⟩ := x; exact Heap.lt_size e
  | ins C dx fs => obtain ⟨_, _, _, e, _⟩ := x; exact Heap.lt_size e
  | own y => obtain ⟨_, e⟩ := x; exact Heap.lt_size e
  | xd fs => obtain ⟨_, ⟨_, _, _, e, _⟩, _⟩ := x; exact Heap.lt_size e
  | rng lo hi => obtain ⟨_, _, _, e⟩ := x; exact Heap.lt_size e
  | frz ob u => obtain ⟨e, _⟩ := x; exact Heap.lt_size e
  | tbl ps => exact Heap.lt_size (show h.get? a = some _ from x)
  | met f y => exact Heap.lt_size (show h.get? a = some _ from x)
  | ext φ => obtain ⟨_, ⟨_, e⟩, _⟩ := x; exact Heap.lt_size e
theorem Paired.mapP {α β : Type} {F G : α → β → Prop} : ∀ {l₁ : List α} {l₂ : List β}, Paired F l₁ l₂ → (∀ a b, F a b → G a b) → Paired G l₁ l₂
  | _, _, .nil, _ => .nil
  | _, _, .cons r t, f => .cons (f _ _ r) (Paired.mapP t f)
theorem Paired.imp' {α β : Type} {F G : α → β → Prop} (f : ∀ a b, F a b → G a b) {l₁ : List α} {l₂ : List β} (r : Paired F l₁ l₂) : Paired G l₁ l₂ := Paired.mapP r f
/-- what an object's description leans on: its own object, its own dict, the tuples -/
theorem ObjOk.stay (x : ObjOk P w H h a o) (k : ∀ b u, (b = a ∨ H b = some (.own a)) → h.get? b = some u → h'.get? b = some u)
    (ho : ∀ b, H b = some (.own a) → H' b = some (.own a)) (ht : ∀ b xs, H b = some (.tup xs) → H' b = some (.tup xs)) : ObjOk P w H' h' a o := by
  induction o with
  | lst xs => obtain ⟨z, its, n, r, e⟩ := x; exact ⟨z, its, n, r, k _ _ (.inl rfl) e⟩
  | tup xs => obtain ⟨z, its, r, ob, e, c⟩ := x; exact ⟨z, its, r, ob, k _ _ (.inl rfl) e, c⟩
  | dK kvs => obtain ⟨z, y, vs, r, ob, es, ep, e, c⟩ := x; exact ⟨z, y, vs, r, ob, es, ep, k _ _ (.inl rfl) e, c⟩
  | dT kvs =>
    obtain ⟨z, y, xs, r, ob, es, ep, e, c⟩ := x
    exact ⟨z, y, xs, Paired.mapP r fun p q z => ⟨z.1, ht _ _ z.2.1, z.2.2⟩, ob, es, ep, k _ _ (.inl rfl) e, c⟩
  | set S n => obtain ⟨ob, es, ep, t, e, c⟩ := x; exact ⟨ob, es, ep, t, k _ _ (.inl rfl) e, c⟩
  | ins C dx fs =>
    obtain ⟨d, z, ne, e, mA, ⟨od, es, ep, e2, c⟩, r⟩ := x
    exact ⟨ho _ d, z, ne, k _ _ (.inl rfl) e, mA, ⟨od, es, ep, k _ _ (.inr d) e2, c⟩, r⟩
  | own y => obtain ⟨ob, e⟩ := x; exact ⟨ob, k _ _ (.inl rfl) e⟩
  | xd fs => obtain ⟨mA, ⟨od, es, ep, e, c⟩, r⟩ := x; exact ⟨mA, ⟨od, es, ep, k _ _ (.inl rfl) e, c⟩, r⟩
  | rng lo hi => obtain ⟨t, u, v, e⟩ := x; exact ⟨t, u, v, k _ _ (.inl rfl) e⟩
  | frz ob u ih => obtain ⟨e, q⟩ := x; exact ⟨k _ _ (.inl rfl) e, ih q⟩
  | tbl ps =>
    have e : h.get? a = some { cls := .none, data := .fields ps } := x
    show h'.get? a = some { cls := .none, data := .fields ps }
    exact k a _ (.inl rfl) e
  | met f y =>
    have e : h.get? a = some (PySem.W.methodObj (.ref f) (.ref y)) := x
    show h'.get? a = some (PySem.W.methodObj (.ref f) (.ref y))
    exact k a _ (.inl rfl) e
  | ext φ => obtain ⟨p, ⟨o, e⟩, st⟩ := x; exact ⟨st _ _ p fun o q => k _ _ (.inl rfl) q, ⟨o, k _ _ (.inl rfl) e⟩, st⟩
theorem HOk.lt (x : HOk P w H h) (e : H a = some o) : a < h.objs.size := (x a o e).lt
theorem HOk.fresh (x : HOk P w H h) (e : h.objs.size ≤ a) : H a = none := by
  cases q : H a with
  | none => rfl
  | some u => exact absurd (Nat.lt_of_lt_of_le (x.lt q) e) (Nat.lt_irrefl _)
/-- every object of the heap is kept -/
theorem HOk.kept (x : HOk P w H h) (k : ∀ b u, h.get? b = some u → h'.get? b = some u) : HOk P w H h' := fun a o e =>
  (x a o e).stay (fun b u _ q => k b u q) (fun _ q => q) fun _ _ q => q
/-- a new object is laid and tracked -/
theorem HOk.laid (x : HOk P w H h) (k : ∀ b u, h.get? b = some u → h'.get? b = some u) (hp : h.objs.size ≤ a) (new : ObjOk P w (upd H a o) h' a o) : HOk P w (upd H a o) h' := fun b u e => by
  have hn := x.fresh hp
  by_cases hb : b = a
  · subst hb; rw [upd_same] at e; cases e; exact new
  · rw [upd_ne hb] at e
    exact (x b u e).stay (fun c v _ q => k c v q) (fun c q => by rw [upd_ne (ne_of_none q hn)]; exact q) fun c xs q => by rw [upd_ne (ne_of_none q hn)]; exact q
end

/-- what may be read as u: it is u, or a known u -/
def Rd (H : Hp) (a : Addr) (u : HO) : Prop := H a = some u ∨ ∃ o, H a = some (.frz o u)
theorem Rd.of {H : Hp} {a : Addr} {u : HO} (h : H a = some u) : Rd H a u := .inl h
theorem Rd.ok {P : Program} {w : World} {H : Hp} {h : Heap} {a : Addr} {u : HO} (r : Rd H a u) (x : HOk P w H h) : ObjOk P w H h a u := by
  rcases r with r | ⟨o, r⟩
  · exact x a u r
  · obtain ⟨_, q⟩ := x a _ r
    exact q
/-- what may be written -/
def Mut : Option HO → Prop
  | some (.lst _) => True
  | some (.dK _) => True
  | some (.dT _) => True
  | some (.set _ _) => True
  | some (.ins _ _ _) => True
  | some (.ext _) => True
  | _ => False
section
variable {P : Program} {w : World} {H : Hp} {h h' : Heap} {x e : Addr} {o' : HO}
/-- the object at e is changed: x itself, or the dict of the instance x -/
theorem HOk.write (ok : HOk P w H h) (mu : Mut (H x)) (he : e = x ∨ H e = some (.own x)) (k : ∀ b u, b ≠ e → h.get? b = some u → h'.get? b = some u) (heo : ∃ u, h'.get? e = some u)
    (new : ObjOk P w (upd H x o') h' x o') : HOk P w (upd H x o') h' := fun b u q => by
  have nown : ∀ c y, H c = some (.own y) → c ≠ x := fun c y r z => by subst z; rw [r] at mu; exact mu
  have ntup : ∀ c xs, H c = some (.tup xs) → c ≠ x := fun c xs r z => by subst z; rw [r] at mu; exact mu
  by_cases hb : b = x
  · subst hb; rw [upd_same] at q; cases q; exact new
  · rw [upd_ne hb] at q
    by_cases hbe : b = e
    · have q' : H b = some (.own x) := by
        rcases he with z | z
        · exact absurd (hbe.trans z) hb
        · rw [hbe]; exact z
      rw [q] at q'; cases q'
      obtain ⟨v, hv⟩ := heo
      exact ⟨v, by rw [hbe]; exact hv⟩
    · refine (ok b u q).stay (fun c v hc r => k c v ?_ r) (fun c r => by rw [upd_ne (nown c b r)]; exact r) fun c xs r => by rw [upd_ne (ntup c xs r)]; exact r
      rcases hc with rfl | hc
      · exact hbe
      · rintro rfl
        rcases he with z | z
        · exact nown c b hc z
        · rw [hc] at z; cases z; exact hb rfl
end

/-! ### kept unless tracked; of the frames at fs (the callers') the slots may change (an exception that passes writes there); of the records at ex (iterators) nothing is said -/
structure Un (fs ex : List Addr) (H H' : Hp) (h h' : Heap) : Prop where
  keep : ∀ b o, h.get? b = some o → H b = none → b ∉ fs → b ∉ ex → h'.get? b = some o
  slot : ∀ b o, h.get? b = some o → H b = none → b ∈ fs → b ∉ ex → ∃ sl, h'.get? b = some { o with slots := sl }
  free : ∀ b o, h.get? b = some o → H b = none → b ∉ ex → H' b = none
  there : ∀ b o, h.get? b = some o → b ∉ ex → ∃ o', h'.get? b = some o'
  tups : ∀ b xs, H b = some (.tup xs) → H' b = some (.tup xs)
  frzs : ∀ b o u, H b = some (.frz o u) → H' b = some (.frz o u)
  tbls : ∀ b ps, H b = some (.tbl ps) → ∃ more, H' b = some (.tbl (ps ++ more))
section
variable {fs fs' ex ex' : List Addr} {H H1 H2 : Hp} {h h1 h2 h' : Heap} {a x e : Addr} {o : HO}
theorem Un.any (u : Un fs ex H H1 h h1) {b : Addr} {ob : Obj} (q : h.get? b = some ob) (n : H b = none) (hx : b ∉ ex) : ∃ sl, h1.get? b = some { ob with slots := sl } := by
  by_cases hb : b ∈ fs
  · exact u.slot b ob q n hb hx
  · exact ⟨ob.slots, u.keep b ob q n hb hx⟩
theorem Un.trans (a : Un fs ex H H1 h h1) (b : Un fs ex H1 H2 h1 h2) : Un fs ex H H2 h h2 where
  keep := fun c ob q n hc hx => b.keep c ob (a.keep c ob q n hc hx) (a.free c ob q n hx) hc hx
  slot := fun c ob q n hc hx => by
    obtain ⟨sl, e1⟩ := a.slot c ob q n hc hx
    obtain ⟨sl', e2⟩ := b.slot c _ e1 (a.free c ob q n hx) hc hx
    exact ⟨sl', e2⟩
  free := fun c ob q n hx => by
    obtain ⟨o', e1⟩ := a.there c ob q hx
    exact b.free c o' e1 (a.free c ob q n hx) hx
  there := fun c ob q hx => by
    obtain ⟨o', e1⟩ := a.there c ob q hx
    exact b.there c o' e1 hx
  tups := fun c xs q => b.tups c xs (a.tups c xs q)
  frzs := fun c ob xs q => b.frzs c ob xs (a.frzs c ob xs q)
  tbls := fun c ps q => by
    obtain ⟨m1, e1⟩ := a.tbls c ps q
    obtain ⟨m2, e2⟩ := b.tbls c _ e1
    exact ⟨m1 ++ m2, by rw [e2, Array.append_assoc]⟩
theorem Un.kept (k : ∀ b u, h.get? b = some u → h'.get? b = some u) : Un fs ex H H h h' :=
  ⟨fun b ob q _ _ _ => k b ob q, fun b ob q _ _ _ => ⟨ob.slots, k b ob q⟩, fun _ _ _ n _ => n, fun b ob q _ => ⟨ob, k b ob q⟩, fun _ _ q => q, fun _ _ _ q => q, fun _ ps q => ⟨#[], by rw [q]; simp⟩⟩
theorem Un.refl : Un fs ex H H h h := Un.kept fun _ _ q => q
theorem Un.laid (k : ∀ b u, h.get? b = some u → h'.get? b = some u) (hp : h.objs.size ≤ a) (hn : H a = none) : Un fs ex H (upd H a o) h h' where
  keep := fun b u q _ _ _ => k b u q
  slot := fun b u q _ _ _ => ⟨u.slots, k b u q⟩
  free := fun b u q n _ => by rw [upd_ne (Nat.ne_of_lt (Nat.lt_of_lt_of_le (Heap.lt_size q) hp))]; exact n
  there := fun b u q _ => ⟨u, k b u q⟩
  tups := fun b xs q => by rw [upd_ne (ne_of_none q hn)]; exact q
  frzs := fun b u xs q => by rw [upd_ne (ne_of_none q hn)]; exact q
  tbls := fun b ps q => ⟨#[], by rw [upd_ne (ne_of_none q hn), q]; simp⟩
theorem Un.write (mu : Mut (H x)) (he : e = x ∨ H e = some (.own x)) (k : ∀ b u, b ≠ e → h.get? b = some u → h'.get? b = some u) (heo : ∃ u, h'.get? e = some u) : Un fs ex H (upd H x o) h h' := by
  have hx : ∀ b, H b = none → b ≠ x := fun b n z => by subst z; rw [n] at mu; exact mu
  have hb : ∀ b, H b = none → b ≠ e := fun b n z => by
    subst z
    rcases he with r | r
    · exact hx b n r
    · rw [n] at r; cases r
  have hm : ∀ b u, H b = some u → ¬ Mut (some u) → b ≠ x := fun b u q nm z => by subst z; rw [q] at mu; exact nm mu
  refine ⟨fun b u q n _ _ => k b u (hb b n) q, fun b u q n _ _ => ⟨u.slots, k b u (hb b n) q⟩, fun b u q n _ => by rw [upd_ne (hx b n)]; exact n, fun b u q _ => ?_,
    fun b xs q => by rw [upd_ne (hm b _ q fun z => z)]; exact q, fun b u xs q => by rw [upd_ne (hm b _ q fun z => z)]; exact q, fun b ps q => ⟨#[], by rw [upd_ne (hm b _ q fun z => z), q]; simp⟩⟩
  by_cases hbe : b = e
  · subst hbe; exact heo
  · exact ⟨u, k b u hbe q⟩
theorem Un.mono (u : Un fs ex H H1 h h1) (hs : ∀ b ∈ fs, b ∈ fs') (hx : ∀ b ∈ ex, b ∈ ex') : Un fs' ex' H H1 h h1 :=
  ⟨fun b ob q n hb he => u.keep b ob q n (fun z => hb (hs b z)) fun z => he (hx b z), fun _ _ q n _ he => u.any q n fun z => he (hx _ z), fun b ob q n he => u.free b ob q n fun z => he (hx b z), fun b ob q he => u.there b ob q fun z => he (hx b z), u.tups, u.frzs, u.tbls⟩
end

/-! ### the heap without what is tracked -/
def trk (h : Heap) (H : Hp) : List Addr := (List.range h.objs.size).filter fun a => (H a).isSome
def hidT (h : Heap) (H : Hp) : Heap := PySem.W.hideAll h (trk h H)
theorem hidT_size (h : Heap) (H : Hp) : (hidT h H).objs.size = h.objs.size := PySem.W.hideAll_size _ _
theorem hidT_get {h : Heap} {H : Hp} {b : Addr} {o : Obj} (e : h.get? b = some o) (n : H b = none) : (hidT h H).get? b = some o :=
  PySem.W.hideAll_get _ e fun hm => by
    have q : (H b).isSome = true := (List.mem_filter.mp hm).2
    rw [n] at q; simp at q
theorem of_hidT {h : Heap} {H : Hp} {b : Addr} {o : Obj} (e : (hidT h H).get? b = some o) : h.get? b = some o ∧ H b = none := by
  have e' : h.get? b = some o := PySem.W.of_hideAll (trk h H) e
  refine ⟨e', ?_⟩
  cases q : H b with
  | none => rfl
  | some x =>
    have hm : b ∈ trk h H := List.mem_filter.mpr ⟨List.mem_range.mpr (Heap.lt_size e'), by simp [q]⟩
    have z : (hidT h H).get? b = none := PySem.W.hideAll_none (trk h H) hm
    rw [z] at e; cases e

/-! ### OpenK's ledger, filled with every new object but one -/
def allNews (g h : Heap) (L : Addr) : List (Addr × Obj) := (List.range h.objs.size).filterMap fun a => if a = L ∨ (g.get? a).isSome = true then none else (h.get? a).map fun o => (a, o)
theorem mem_allNews {g h : Heap} {L a : Addr} {o : Obj} (h1 : a ≠ L) (h2 : g.get? a = none) (h3 : h.get? a = some o) : (a, o) ∈ allNews g h L :=
  List.mem_filterMap.mpr ⟨a, List.mem_range.mpr (Heap.lt_size h3), by simp [h1, h2, h3]⟩
theorem of_mem_allNews {g h : Heap} {L : Addr} {p : Addr × Obj} (hp : p ∈ allNews g h L) : p.1 ≠ L ∧ g.get? p.1 = none ∧ h.get? p.1 = some p.2 := by
  obtain ⟨b, _, e⟩ := List.mem_filterMap.mp hp
  split at e
  · cases e
  · rename_i hn
    cases q : h.get? b with
    | none => rw [q] at e; simp at e
    | some u =>
      rw [q] at e
      simp only [Option.map_some, Option.some.injEq] at e
      subst e
      refine ⟨fun z => hn (.inl z), ?_, q⟩
      show g.get? b = none
      cases r : g.get? b with
      | none => rfl
      | some v => exact (hn (.inr (by simp [r]))).elim
def rest (g h : Heap) (L d : Addr) : List (Addr × Obj) := (allNews g h L).filter fun p => decide (p.1 ≠ d)
theorem rest_ne {g h : Heap} {L d : Addr} : ∀ p ∈ rest g h L d, p.1 ≠ d := fun p hp => of_decide_eq_true (List.mem_filter.mp hp).2
theorem mem_rest {g h : Heap} {L d a : Addr} {o : Obj} (h1 : a ≠ L) (h2 : g.get? a = none) (h3 : h.get? a = some o) (h4 : a ≠ d) : (a, o) ∈ rest g h L d :=
  List.mem_filter.mpr ⟨mem_allNews h1 h2 h3, decide_eq_true h4⟩
theorem news_all {g h : Heap} {L : Addr} : News g L h (allNews g h L) := fun p hp => let ⟨a, b, c⟩ := of_mem_allNews hp; ⟨c, a, b⟩
theorem news_at {g h : Heap} {L d : Addr} {o : Obj} (h1 : d ≠ L) (h2 : g.get? d = none) (h3 : h.get? d = some o) : News g L h ((d, o) :: rest g h L d) := fun p hp => by
  rcases List.mem_cons.mp hp with rfl | hp
  · exact ⟨h3, h1, h2⟩
  · exact news_all p (List.mem_filter.mp hp).1
/-- behind a rule that changed d alone: all else but the frame is kept -/
theorem kept_of_news {g h h' : Heap} {L d : Addr} {m : Str → Option Value} (k : ∀ b o, g.get? b = some o → h.get? b = some o) (F : Fr g L h' m) (N : News g L h' (rest g h L d)) :
    ∀ b o, b ≠ L → b ≠ d → h.get? b = some o → h'.get? b = some o := fun b o h1 h2 e => by
  cases q : g.get? b with
  | some u =>
    have := k b u q
    rw [e] at this; cases this
    exact F.keep b _ q
  | none => exact (N (b, o) (mem_rest h1 q e h2)).1
end L2

namespace L2
open PySem PySem.Spec PyProof.Rows

/-- the module's facts, over the base: the heap at the law's entry without what is tracked there -/
structure Mod (K : PySem.W.Frag) (mg : Str → Option Value) (base : Heap) : Prop where
  kin : K.In base
  glob : base.Ns mainGlobals mg
  blt : ∃ mb, base.Ns builtinsNs mb ∧ ∀ x : Str, x ≠ "__name__" → mb x = bootBuiltins x
  nolimit : base.NoLimit

/-- the context: a def's body (or a comprehension's block) running. base: fixed through the whole law; s₀, H₀: the entry; outer: the frames whose slots others may change (a def's callers); stack: all frames that run;
   ex: iterators that were made ahead of the entry and are walked here (a comprehension's); fn: the names whose cells were made at the entry (a def: all; a comprehension's block: its own); calm: not within an except suite; pn: pins that every state bears; xe: what is wanted of an exception that leaves the code -/
structure Cx where
  prog : Program
  w : World
  K : PySem.W.Frag
  mg : Str → Option Value
  base : Heap
  A : Around
  N : List Str
  s₀ : Shared
  H₀ : Hp
  env : Env
  outer : List Env
  stack : List Env
  ex : List Addr
  fn : Str → Bool
  calm : Bool
  pn : List (Addr × Obj)
  xe : Value → Shared → Prop
/-- the callers' frames -/
def frs (l : List Env) : List Addr := l.filterMap (·.frame)
abbrev Cx.fs (X : Cx) : List Addr := frs X.outer

def Vis (sc : Scope) (x : Str) : Prop := sc.names.lookup x = some .local ∨ sc.names.lookup x = some .cell ∨ sc.names.lookup x = some .free
def Loc (sc : Scope) (x : Str) : Prop := sc.names.lookup x = some .local ∨ sc.names.lookup x = some .cell
def Look (env : Env) (h : Heap) (m : Str → Option Value) (x : Str) (u : Value) : Prop :=
  (env.kindOf x = some .local ∧ m x = some u) ∨ ((env.kindOf x = some .cell ∨ env.kindOf x = some .free) ∧ ∃ c, env.cells.lookup x = some c ∧ h.IsCell c (some u))

structure Cx.Ok (X : Cx) : Prop where
  mod : Mod X.K X.mg X.base
  kind : X.env.scope.kind = .function
  glob : X.env.globals = mainGlobals
  blt : X.env.builtins = builtinsNs
  above : X.s₀.heap.objs.size ≤ X.env.locals
  inj : ∀ x y c, X.env.cells.lookup x = some c → X.env.cells.lookup y = some c → x = y
  has : ∀ x, (X.env.kindOf x = some .cell ∨ X.env.kindOf x = some .free) → ∃ c, X.env.cells.lookup x = some c
  cab : ∀ x c, X.fn x = true → X.env.cells.lookup x = some c → X.s₀.heap.objs.size ≤ c
  hd : X.calm = true → X.A.handled = none
  frames : X.A.frames = some X.stack
  stk : X.stack = X.outer ∨ (X.stack = X.env :: X.outer ∧ X.env.frame = some X.env.locals)
  exf : ∀ b ∈ X.ex, b ≠ X.env.locals ∧ ∀ x c, X.env.cells.lookup x = some c → c ≠ b
  bs : ∀ b o, X.base.get? b = some o → X.s₀.heap.get? b = some o ∧ X.H₀ b = none
  bsz : X.base.objs.size ≤ X.s₀.heap.objs.size
  noex : ∀ b o, X.base.get? b = some o → b ∉ X.ex
  exfs : ∀ b ∈ X.ex, b ∉ X.fs
  funs : X.s₀.heap.FunFrames X.base X.outer
  frf : ∀ b ∈ X.fs, X.H₀ b = none

structure Inv (X : Cx) (pins : List (Addr × Obj)) (σ : List (Option V)) (H : Hp) (s : Shared) : Prop where
  ok : X.Ok
  os : s.os = X.s₀.os
  bare : AllBare s.gens
  base : Un X.fs X.ex X.H₀ H X.s₀.heap s.heap
  loc : ∃ m, s.heap.Ns X.env.locals m ∧ ∀ (i : Nat) (x : Str) (v : V), X.N[i]? = some x → σ[i]? = some (some v) → Vis X.env.scope x → ∃ u, RelV v u ∧ Look X.env s.heap m x u
  cell : ∀ x c, X.env.cells.lookup x = some c → ∃ v, s.heap.IsCell c v
  free : H X.env.locals = none
  freeC : ∀ x c, X.env.cells.lookup x = some c → H c = none
  pin : ∀ p ∈ X.pn ++ pins, s.heap.get? p.1 = some p.2 ∧ H p.1 = none ∧ p.1 ≠ X.env.locals ∧ p.1 ∉ X.fs ∧ ∀ v, p.2.data ≠ .cell v
  hok : HOk X.prog X.w H s.heap
  len : σ.length = X.N.length

section
variable {X : Cx} {pins : List (Addr × Obj)} {σ : List (Option V)} {H H' : Hp} {s : Shared} {h' : Heap}

theorem Cx.Ok.nofr (ok : X.Ok) {b : Addr} {o : Obj} (e : X.base.get? b = some o) : b ∉ X.fs := fun hb => by
  have := (ok.funs.mem hb).1
  rw [e] at this; cases this
theorem Inv.bs (I : Inv X pins σ H s) : ∀ b o, X.base.get? b = some o → s.heap.get? b = some o ∧ H b = none := fun b o e =>
  ⟨I.base.keep b o (I.ok.bs b o e).1 (I.ok.bs b o e).2 (I.ok.nofr e) (I.ok.noex b o e), I.base.free b o (I.ok.bs b o e).1 (I.ok.bs b o e).2 (I.ok.noex b o e)⟩
theorem Inv.bk (I : Inv X pins σ H s) : ∀ b o, X.base.get? b = some o → s.heap.get? b = some o := fun b o e => (I.bs b o e).1
theorem Inv.mod (I : Inv X pins σ H s) : Mod X.K X.mg X.base := I.ok.mod
theorem Inv.kIn (I : Inv X pins σ H s) : X.K.In s.heap := I.ok.mod.kin.keeps I.bk
theorem Inv.nolimit (I : Inv X pins σ H s) : s.heap.NoLimit := I.ok.mod.nolimit.keeps I.bk
/-- the frame over the base: for OpenK's rules (K.In X.base is I.mod.kin) -/
theorem Inv.fr (I : Inv X pins σ H s) : ∃ m, Fr X.base X.env.locals s.heap m :=
  let ⟨m, hn, _⟩ := I.loc
  ⟨m, hn, I.bk, Nat.le_trans I.ok.bsz I.ok.above⟩
theorem Inv.lt (I : Inv X pins σ H s) : X.env.locals < s.heap.objs.size := let ⟨_, hn, _⟩ := I.loc; hn.lt
theorem Inv.sz (I : Inv X pins σ H s) : X.s₀.heap.objs.size ≤ s.heap.objs.size := Nat.le_trans I.ok.above (Nat.le_of_lt I.lt)
theorem Inv.nofs (I : Inv X pins σ H s) {a : Addr} (h : s.heap.objs.size ≤ a) : a ∉ X.fs := fun hb => by
  obtain ⟨_, o, ho, _⟩ := I.ok.funs.mem hb
  exact absurd (Nat.lt_of_lt_of_le (Heap.lt_size ho) (Nat.le_trans I.sz h)) (Nat.lt_irrefl _)
theorem Inv.cne (I : Inv X pins σ H s) : ∀ x c, X.env.cells.lookup x = some c → c ≠ X.env.locals := fun x c e z => by
  obtain ⟨v, o, ho, hd⟩ := I.cell x c e
  obtain ⟨m, ⟨o', es, ep, ho', hd', _⟩, _⟩ := I.loc
  rw [z, ho'] at ho; cases ho; rw [hd'] at hd; cases hd
theorem Inv.funs (I : Inv X pins σ H s) : s.heap.FunFrames X.base X.outer := by
  have all : ∀ (l : List Env), (∀ b ∈ frs l, b ∈ X.fs) → X.s₀.heap.FunFrames X.base l → s.heap.FunFrames X.base l := by
    intro l
    induction l with
    | nil => intro _ _; trivial
    | cons env r ih =>
      intro hs hl
      obtain ⟨hk, ⟨L, o, hf, hn, ho, hd⟩, hr⟩ := hl
      have hL : L ∈ X.fs := hs L (by unfold frs; rw [List.filterMap_cons, hf]; exact List.mem_cons_self)
      obtain ⟨sl, e⟩ := I.base.slot L o ho (I.ok.frf L hL) hL fun z => I.ok.exfs L z hL
      exact ⟨hk, ⟨L, _, hf, hn, e, hd⟩, ih (fun b hb => hs b (by unfold frs; rw [List.filterMap_cons, hf]; exact List.mem_cons_of_mem _ hb)) hr⟩
  exact all X.outer (fun _ hb => hb) I.ok.funs

/-- the frames that run, for a call -/
theorem Inv.stack (I : Inv X pins σ H s) : s.heap.FunFrames X.base X.stack := by
  rcases I.ok.stk with e | ⟨e, hf⟩
  · rw [e]; exact I.funs
  · rw [e]
    obtain ⟨m, hn, _⟩ := I.loc
    refine .cons (by rw [I.ok.kind]; decide) hf hn ?_ I.funs
    exact Heap.get?_none_of_le (Nat.le_trans I.ok.bsz I.ok.above)
theorem Inv.stkSub (I : Inv X pins σ H s) : ∀ b ∈ frs X.stack, b ∈ X.env.locals :: X.fs := fun b hb => by
  rcases I.ok.stk with e | ⟨e, hf⟩
  · rw [e] at hb; exact List.mem_cons_of_mem _ hb
  · rw [e] at hb
    unfold frs at hb
    rw [List.filterMap_cons, hf] at hb
    exact hb
theorem Inv.stkFree (I : Inv X pins σ H s) : ∀ b ∈ frs X.stack, H b = none := fun b hb => by
  rcases List.mem_cons.mp (I.stkSub b hb) with e | hb
  · rw [e]; exact I.free
  · obtain ⟨_, o, ho, _⟩ := I.ok.funs.mem hb
    exact I.base.free b o ho (I.ok.frf b hb) fun z => I.ok.exfs b z hb

/-- THE STEP: the untracked objects but the frame and the records at ch are kept (the callers' frames up to slots), the frame's map is kept, the new abstract heap is held -/
theorem Inv.step {g' : Array GenState} {t' : Nat} {d' : Drawn} {ch : List Addr} (I : Inv X pins σ H s)
    (hch : ∀ b ∈ ch, (b ∈ X.ex ∨ X.s₀.heap.objs.size ≤ b) ∧ b ≠ X.env.locals ∧ (∀ x c, X.env.cells.lookup x = some c → c ≠ b) ∧ ∀ p ∈ X.pn ++ pins, p.1 ≠ b)
    (keep : ∀ b o, b ≠ X.env.locals → b ∉ X.fs → b ∉ ch → s.heap.get? b = some o → H b = none → h'.get? b = some o)
    (slot : ∀ b o, b ≠ X.env.locals → b ∈ X.fs → b ∉ ch → s.heap.get? b = some o → H b = none → ∃ sl, h'.get? b = some { o with slots := sl }) (free : ∀ b o, b ∉ ch → s.heap.get? b = some o → H b = none → H' b = none)
    (there : ∀ b o, b ∉ ch → s.heap.get? b = some o → ∃ o', h'.get? b = some o')
    (tups : ∀ b xs, H b = some (.tup xs) → H' b = some (.tup xs)) (frzs : ∀ b o u, H b = some (.frz o u) → H' b = some (.frz o u)) (tbls : ∀ b ps, H b = some (.tbl ps) → ∃ more, H' b = some (.tbl (ps ++ more)))
    (ns : ∀ m, s.heap.Ns X.env.locals m → h'.Ns X.env.locals m) (hok : HOk X.prog X.w H' h') (hg : AllBare g') :
    Inv X pins σ H' { s with heap := h', gens := g', drawn := d', toks := t' } := by
  have neL : ∀ b o, X.s₀.heap.get? b = some o → b ≠ X.env.locals := fun b o e => Nat.ne_of_lt (Nat.lt_of_lt_of_le (Heap.lt_size e) I.ok.above)
  have neC : ∀ b o, X.s₀.heap.get? b = some o → b ∉ X.ex → b ∉ ch := fun b o e hx hb => by
    rcases (hch b hb).1 with z | z
    · exact hx z
    · exact absurd (Nat.lt_of_lt_of_le (Heap.lt_size e) z) (Nat.lt_irrefl _)
  have cellK : ∀ x c, X.env.cells.lookup x = some c → ∀ v, s.heap.IsCell c v → h'.IsCell c v := fun x c e v ⟨o, ho, hd⟩ => by
    have nch : c ∉ ch := fun z => (hch c z).2.2.1 x c e rfl
    by_cases hc : c ∈ X.fs
    · obtain ⟨sl, q⟩ := slot c o (I.cne x c e) hc nch ho (I.freeC x c e)
      exact ⟨_, q, hd⟩
    · exact ⟨o, keep c o (I.cne x c e) hc nch ho (I.freeC x c e), hd⟩
  refine ⟨I.ok, I.os, hg, ⟨fun b o e n hb hx => ?_, fun b o e n hb hx => ?_, fun b o e n hx => ?_, fun b o e hx => ?_, fun b xs e => tups b xs (I.base.tups b xs e), fun b o xs e => frzs b o xs (I.base.frzs b o xs e), fun b ps e => ?_⟩, ?_, fun x c e => ?_, ?_, fun x c e => ?_, fun p hp => ?_, hok, I.len⟩
  · exact keep b o (neL b o e) hb (neC b o e hx) (I.base.keep b o e n hb hx) (I.base.free b o e n hx)
  · obtain ⟨sl, e1⟩ := I.base.slot b o e n hb hx
    obtain ⟨sl', e2⟩ := slot b _ (neL b o e) hb (neC b o e hx) e1 (I.base.free b o e n hx)
    exact ⟨sl', e2⟩
  · obtain ⟨o', e1⟩ := I.base.there b o e hx
    exact free b o' (neC b o e hx) e1 (I.base.free b o e n hx)
  · obtain ⟨o', e1⟩ := I.base.there b o e hx
    exact there b o' (neC b o e hx) e1
  · obtain ⟨m1, e1⟩ := I.base.tbls b ps e
    obtain ⟨m2, e2⟩ := tbls b _ e1
    exact ⟨m1 ++ m2, by rw [e2, Array.append_assoc]⟩
  · obtain ⟨m, hn, hl⟩ := I.loc
    refine ⟨m, ns m hn, fun i x v e1 e2 e3 => ?_⟩
    obtain ⟨u, r, l⟩ := hl i x v e1 e2 e3
    refine ⟨u, r, ?_⟩
    rcases l with l | ⟨k, c, e, z⟩
    · exact .inl l
    · exact .inr ⟨k, c, e, cellK x c e _ z⟩
  · obtain ⟨v, z⟩ := I.cell x c e
    exact ⟨v, cellK x c e v z⟩
  · obtain ⟨m, ⟨o, _, _, ho, _⟩, _⟩ := I.loc
    exact free _ o (fun z => (hch _ z).2.1 rfl) ho I.free
  · obtain ⟨v, o, ho, hd⟩ := I.cell x c e
    exact free c o (fun z => (hch c z).2.2.1 x c e rfl) ho (I.freeC x c e)
  · obtain ⟨e, n, ne, nf, d⟩ := I.pin p hp
    have nch : p.1 ∉ ch := fun z => (hch p.1 z).2.2.2 p hp rfl
    exact ⟨keep p.1 p.2 ne nf nch e n, free p.1 p.2 nch e n, ne, nf, d⟩
/-- .. where the frame's own object is kept too -/
theorem Inv.un {t' : Nat} (I : Inv X pins σ H s) (u : Un X.fs [] H H' s.heap h') (hok : HOk X.prog X.w H' h') : Inv X pins σ H' { s with heap := h', toks := t' } := by
  obtain ⟨m, ⟨o, es, ep, ho, r⟩, _⟩ := id I.loc
  obtain ⟨sl, hL⟩ := u.any ho I.free (by simp)
  exact I.step (g' := s.gens) (d' := s.drawn) (ch := []) (fun _ z => nomatch z) (fun b o _ hb _ e n => u.keep b o e n hb (by simp)) (fun b o _ hb _ e n => u.slot b o e n hb (by simp)) (fun b o _ e n => u.free b o e n (by simp)) (fun b o _ e => u.there b o e (by simp)) u.tups u.frzs u.tbls (fun m' hm => by
    obtain ⟨o', es', ep', ho', r'⟩ := hm
    rw [ho] at ho'; cases ho'
    exact ⟨_, es', ep', hL, r'⟩) hok I.bare
/-- behind a call (or a comprehension's block): the slots of this frame may have changed too, the records at ch may have turned -/
theorem Inv.call {g' : Array GenState} {t' : Nat} {d' : Drawn} {ch : List Addr} (I : Inv X pins σ H s) (u : Un (frs X.stack) ch H H' s.heap h') (hok : HOk X.prog X.w H' h') (hg : AllBare g')
    (hch : ∀ b ∈ ch, (b ∈ X.ex ∨ X.s₀.heap.objs.size ≤ b) ∧ b ≠ X.env.locals ∧ (∀ x c, X.env.cells.lookup x = some c → c ≠ b) ∧ ∀ p ∈ X.pn ++ pins, p.1 ≠ b) :
    Inv X pins σ H' { s with heap := h', gens := g', drawn := d', toks := t' } := by
  obtain ⟨m, ⟨o, es, ep, ho, r⟩, _⟩ := id I.loc
  obtain ⟨sl, hL⟩ := u.any ho I.free fun z => (hch _ z).2.1 rfl
  exact I.step (ch := ch) hch (fun b o hL hb hc e n => u.keep b o e n (fun z => (List.mem_cons.mp (I.stkSub b z)).elim hL hb) hc) (fun b o _ _ hc e n => u.any e n hc) (fun b o hc e n => u.free b o e n hc) (fun b o hc e => u.there b o e hc) u.tups u.frzs u.tbls (fun m' hm => by
    obtain ⟨o', es', ep', ho', r'⟩ := hm
    rw [ho] at ho'; cases ho'
    exact ⟨_, es', ep', hL, r'⟩) hok hg
/-- an untracked record of ours (an iterator) has turned -/
theorem Inv.turned {t' : Nat} {it : Addr} (I : Inv X pins σ H s) (k : ∀ b o, b ≠ it → s.heap.get? b = some o → h'.get? b = some o) (hn : H it = none) (hL : it ≠ X.env.locals)
    (h1 : it ∈ X.ex ∨ X.s₀.heap.objs.size ≤ it) (h2 : ∀ x c, X.env.cells.lookup x = some c → c ≠ it) (h3 : ∀ p ∈ X.pn ++ pins, p.1 ≠ it) : Inv X pins σ H { s with heap := h', toks := t' } := by
  have nit : ∀ b u, H b = some u → b ≠ it := fun b u e z => by rw [z, hn] at e; cases e
  refine I.step (g' := s.gens) (d' := s.drawn) (ch := [it]) (fun b hb => ?_) (fun b o _ _ hc e _ => k b o (fun z => hc (by simp [z])) e) (fun b o _ _ hc e _ => ⟨o.slots, k b o (fun z => hc (by simp [z])) e⟩) (fun _ _ _ _ n => n)
    (fun b o hc e => ⟨o, k b o (fun z => hc (by simp [z])) e⟩) (fun _ _ e => e) (fun _ _ _ e => e) (fun b ps e => ⟨#[], by rw [e]; simp⟩) (fun m hm => ?_) (fun b u e => ?_) I.bare
  · have e : b = it := by simpa using hb
    subst e
    exact ⟨h1, hL, h2, h3⟩
  · obtain ⟨o, es, ep, ho, r⟩ := hm
    exact ⟨o, es, ep, k _ o (Ne.symm hL) ho, r⟩
  · refine (I.hok b u e).stay (fun c v hc q => k c v ?_ q) (fun _ q => q) fun _ _ q => q
    rcases hc with z | z
    · rw [z]; exact nit b u e
    · exact nit c _ z
theorem Inv.tok (I : Inv X pins σ H s) (t : Nat) : Inv X pins σ H { s with toks := t } := I.un (h' := s.heap) (t' := t) Un.refl I.hok
/-- all objects kept -/
theorem Inv.kept {t' : Nat} (I : Inv X pins σ H s) (k : ∀ b u, s.heap.get? b = some u → h'.get? b = some u) : Inv X pins σ H { s with heap := h', toks := t' } := I.un (Un.kept k) (I.hok.kept k)
/-- a new object laid and tracked -/
theorem Inv.laid {a : Addr} {o : HO} {t' : Nat} (I : Inv X pins σ H s) (k : ∀ b u, s.heap.get? b = some u → h'.get? b = some u) (hp : s.heap.objs.size ≤ a) (new : ObjOk X.prog X.w (upd H a o) h' a o) :
    Inv X pins σ (upd H a o) { s with heap := h', toks := t' } := I.un (Un.laid k hp (I.hok.fresh hp)) (I.hok.laid k hp new)
/-- an object written -/
theorem Inv.write {x e : Addr} {o : HO} {t' : Nat} (I : Inv X pins σ H s) (mu : Mut (H x)) (he : e = x ∨ H e = some (.own x)) (k : ∀ b u, b ≠ e → s.heap.get? b = some u → h'.get? b = some u) (heo : ∃ u, h'.get? e = some u)
    (new : ObjOk X.prog X.w (upd H x o) h' x o) : Inv X pins σ (upd H x o) { s with heap := h', toks := t' } := I.un (Un.write mu he k heo) (I.hok.write mu he k heo new)
/-- forgetting slots, pins -/
theorem Inv.weak {σ' : List (Option V)} (I : Inv X pins σ H s) (hl : σ'.length = σ.length) (w : ∀ (i : Nat) v, σ'[i]? = some (some v) → σ[i]? = some (some v)) : Inv X pins σ' H s :=
  ⟨I.ok, I.os, I.bare, I.base, let ⟨m, hn, hl'⟩ := I.loc; ⟨m, hn, fun i x v e1 e2 e3 => hl' i x v e1 (w i v e2) e3⟩, I.cell, I.free, I.freeC, I.pin, I.hok, hl.trans I.len⟩
theorem Inv.pins_of {pins' : List (Addr × Obj)} (I : Inv X pins σ H s) (h : ∀ p ∈ pins', s.heap.get? p.1 = some p.2 ∧ H p.1 = none ∧ p.1 ≠ X.env.locals ∧ p.1 ∉ X.fs ∧ ∀ v, p.2.data ≠ .cell v) : Inv X pins' σ H s :=
  ⟨I.ok, I.os, I.bare, I.base, I.loc, I.cell, I.free, I.freeC, fun p hp => (List.mem_append.mp hp).elim (fun z => I.pin p (List.mem_append_left _ z)) (h p), I.hok, I.len⟩

theorem nodup_ix {N : List Str} (hN : N.Nodup) {i j : Nat} {x : Str} (a : N[i]? = some x) (b : N[j]? = some x) : i = j := by
  obtain ⟨h1, e1⟩ := List.getElem?_eq_some_iff.mp a
  obtain ⟨h2, e2⟩ := List.getElem?_eq_some_iff.mp b
  exact (List.getElem_inj hN).mp (e1.trans e2.symm)

/-- a name is stored; what changed -/
theorem store_ok2 {M : Model} {A : Around} {E : Value → Shared → Prop} {i : Nat} {x : Str} {v : V} {u : Value} {Q : Unit → Shared → Prop} (I : Inv X pins σ H s) (hN : X.N.Nodup) (hi : X.N[i]? = some x) (hx : Loc X.env.scope x) (r : RelV v u)
    (h : ∀ s', Inv X pins (σ.set i (some v)) H s' → (∃ a, Heap.SameBut a s.heap s'.heap ∧ (a = X.env.locals ∨ X.env.cells.lookup x = some a)) → Q () s') (hf : X.fn x = true ∨ X.env.scope.names.lookup x = some .local := by first | exact .inl rfl | exact .inr rfl | assumption) : wpAny M A (storeName X.env x u) Q E s := by
  obtain ⟨m, hn, hl⟩ := id I.loc
  have hcls : (X.env.scope.kind == .class || (X.env.scope.kind == .module && X.env.locals != X.env.globals)) = false := by rw [I.ok.kind]; rfl
  have hiσ : i < σ.length := by rw [I.len]; exact (List.getElem?_eq_some_iff.mp hi).1
  have cne := I.cne
  have tracked : ∀ {a : Addr} {h' : Heap}, (∃ o, s.heap.get? a = some o ∧ H a = none) → Heap.SameBut a s.heap h' → HOk X.prog X.w H h' := fun {a h'} ha hs b ob e => by
    obtain ⟨_, _, hfree⟩ := ha
    refine (I.hok b ob e).stay (fun c w' hc q => (hs.2 c ?_).trans q) (fun _ q => q) fun _ _ q => q
    rintro rfl
    rcases hc with rfl | hc
    · rw [hfree] at e; cases e
    · rw [hfree] at hc; cases hc
  rcases hx with hk | hk
  · refine wpAny_storeName_local hk hn (fun h' hn' hs => ?_) hcls
    obtain ⟨oL, _, _, hoL, _⟩ := id hn
    refine h _ ⟨I.ok, I.os, I.bare, ⟨fun b o e n hb hx => ?_, fun b o e n hb hx => ?_, I.base.free, fun b o e hx => ?_, I.base.tups, I.base.frzs, I.base.tbls⟩, ⟨_, hn', fun j y v' e1 e2 e3 => ?_⟩, fun y c e => ?_, I.free, I.freeC, fun p hp => ?_, tracked ⟨oL, hoL, I.free⟩ hs, by simpa using I.len⟩ ⟨_, hs, .inl rfl⟩
    · exact (hs.2 b (Nat.ne_of_lt (Nat.lt_of_lt_of_le (Heap.lt_size e) I.ok.above))).trans (I.base.keep b o e n hb hx)
    · obtain ⟨sl, e1⟩ := I.base.slot b o e n hb hx
      exact ⟨sl, (hs.2 b (Nat.ne_of_lt (Nat.lt_of_lt_of_le (Heap.lt_size e) I.ok.above))).trans e1⟩
    · obtain ⟨o', e1⟩ := I.base.there b o e hx
      exact ⟨o', (hs.2 b (Nat.ne_of_lt (Nat.lt_of_lt_of_le (Heap.lt_size e) I.ok.above))).trans e1⟩
    · by_cases hj : j = i
      · subst hj
        rw [hi] at e1; cases e1
        rw [List.getElem?_set_self hiσ] at e2
        cases e2
        exact ⟨u, r, .inl ⟨hk, by simp⟩⟩
      · rw [List.getElem?_set_ne (Ne.symm hj)] at e2
        obtain ⟨u', r', q⟩ := hl j y v' e1 e2 e3
        refine ⟨u', r', ?_⟩
        rcases q with ⟨k, e⟩ | ⟨k, c, e, z⟩
        · refine .inl ⟨k, ?_⟩
          have : y ≠ x := fun e => hj (nodup_ix hN e1 (e ▸ hi))
          simp [this, e]
        · exact .inr ⟨k, c, e, z.sameBut hs (cne y c e)⟩
    · obtain ⟨w', z⟩ := I.cell y c e
      exact ⟨w', z.sameBut hs (cne y c e)⟩
    · obtain ⟨e, n, ne, nf, d⟩ := I.pin p hp
      exact ⟨(hs.2 p.1 ne).trans e, n, ne, nf, d⟩
  · have hfn : X.fn x = true := by
      rcases hf with z | z
      · exact z
      · rw [z] at hk; cases hk
    obtain ⟨c, hc⟩ := I.ok.has x (.inl hk)
    obtain ⟨w', z⟩ := I.cell x c hc
    refine wpAny_storeName_cell I.ok.kind hk hc z (fun h' hc' hs => ?_)
    obtain ⟨oc, hoc, hocd⟩ := id z
    refine h { s with heap := h' } ⟨I.ok, I.os, I.bare, ⟨fun b o e n hb hx => ?_, fun b o e n hb hx => ?_, I.base.free, fun b o e hx => ?_, I.base.tups, I.base.frzs, I.base.tbls⟩, ⟨m, hn.sameBut hs (Ne.symm (cne x c hc)), fun j y v' e1 e2 e3 => ?_⟩, fun y c' e => ?_, I.free, I.freeC, fun p hp => ?_, tracked ⟨oc, hoc, I.freeC x c hc⟩ hs, by simpa using I.len⟩ ⟨c, hs, .inr hc⟩
    · exact (hs.2 b (Nat.ne_of_lt (Nat.lt_of_lt_of_le (Heap.lt_size e) (I.ok.cab x c hfn hc)))).trans (I.base.keep b o e n hb hx)
    · obtain ⟨sl, e1⟩ := I.base.slot b o e n hb hx
      exact ⟨sl, (hs.2 b (Nat.ne_of_lt (Nat.lt_of_lt_of_le (Heap.lt_size e) (I.ok.cab x c hfn hc)))).trans e1⟩
    · obtain ⟨o', e1⟩ := I.base.there b o e hx
      exact ⟨o', (hs.2 b (Nat.ne_of_lt (Nat.lt_of_lt_of_le (Heap.lt_size e) (I.ok.cab x c hfn hc)))).trans e1⟩
    · by_cases hj : j = i
      · subst hj
        rw [hi] at e1; cases e1
        rw [List.getElem?_set_self hiσ] at e2
        cases e2
        exact ⟨u, r, .inr ⟨.inl hk, c, hc, hc'⟩⟩
      · rw [List.getElem?_set_ne (Ne.symm hj)] at e2
        obtain ⟨u', r', q⟩ := hl j y v' e1 e2 e3
        refine ⟨u', r', ?_⟩
        rcases q with q | ⟨k, c', e, z'⟩
        · exact .inl q
        · refine .inr ⟨k, c', e, z'.sameBut hs ?_⟩
          rintro rfl
          exact hj (nodup_ix hN e1 (I.ok.inj _ _ _ e hc ▸ hi))
    · by_cases hcc : c' = c
      · subst hcc; exact ⟨_, hc'⟩
      · obtain ⟨w2, z2⟩ := I.cell y c' e
        exact ⟨w2, z2.sameBut hs hcc⟩
    · obtain ⟨e, n, ne, nf, d⟩ := I.pin p hp
      refine ⟨(hs.2 p.1 ?_).trans e, n, ne, nf, d⟩
      intro q
      rw [q, hoc] at e
      have q' : oc = p.2 := Option.some.inj e
      exact d w' (by rw [← q']; exact hocd)
theorem store_ok {M : Model} {A : Around} {E : Value → Shared → Prop} {i : Nat} {x : Str} {v : V} {u : Value} {Q : Unit → Shared → Prop} (I : Inv X pins σ H s) (hN : X.N.Nodup) (hi : X.N[i]? = some x) (hx : Loc X.env.scope x) (r : RelV v u)
    (h : ∀ s', Inv X pins (σ.set i (some v)) H s' → Q () s') (hf : X.fn x = true ∨ X.env.scope.names.lookup x = some .local := by first | exact .inl rfl | exact .inr rfl | assumption) : wpAny M A (storeName X.env x u) Q E s :=
  store_ok2 I hN hi hx r (fun s' I' _ => h s' I') hf
/-- behind a call or a block, the state as it is -/
theorem Inv.call' {s' : Shared} {ch : List Addr} (I : Inv X pins σ H s) (ho : s'.os = s.os) (u : Un (frs X.stack) ch H H' s.heap s'.heap) (hok : HOk X.prog X.w H' s'.heap) (hg : AllBare s'.gens)
    (hch : ∀ b ∈ ch, (b ∈ X.ex ∨ X.s₀.heap.objs.size ≤ b) ∧ b ≠ X.env.locals ∧ (∀ x c, X.env.cells.lookup x = some c → c ≠ b) ∧ ∀ p ∈ X.pn ++ pins, p.1 ≠ b) : Inv X pins σ H' s' := by
  obtain ⟨h', g', d', t', o'⟩ := s'
  have e : o' = s.os := ho
  subst e
  exact I.call (g' := g') (t' := t') (d' := d') u hok hg hch
end

/-! ### the judgements -/
/-- an exception: its class, its own dict's address (where it has one), the abstract heap behind it -/
abbrev XK := Value → Option Addr → Hp → Prop
abbrev St := List (Option V)
abbrev VK := V → Hp → Prop
/-- an expression's reading; a test's; an argument list's -/
abbrev TE := St → Hp → VK → Prop
abbrev TT := St → Hp → (Bool → Hp → Prop) → Prop
abbrev TA := St → Hp → (List V → Hp → Prop) → Prop
/-- what is wanted behind a statement -/
structure Ends where
  nx : St → Hp → Prop
  rt : VK
  bk : St → Hp → Prop := fun _ _ => False
  ct : St → Hp → Prop := fun _ _ => False
abbrev TS := Ends → St → Hp → Prop

def EP (X : Cx) (pins : List (Addr × Obj)) (σ : St) (Q : VK) (u : Value) (s' : Shared) : Prop := ∃ v H', Inv X pins σ H' s' ∧ RelV v u ∧ Q v H'
def TP (X : Cx) (pins : List (Addr × Obj)) (σ : St) (Q : Bool → Hp → Prop) (b : Bool) (s' : Shared) : Prop := ∃ H', Inv X pins σ H' s' ∧ Q b H'
def AP (X : Cx) (pins : List (Addr × Obj)) (σ : St) (Q : List V → Hp → Prop) (us : List Value) (s' : Shared) : Prop := ∃ vs H', Inv X pins σ H' s' ∧ Vals vs us ∧ Q vs H'
def SP (X : Cx) (pins : List (Addr × Obj)) (D : Ends) (f : Flow) (s' : Shared) : Prop :=
  match f with
  | .next => ∃ σ' H', Inv X pins σ' H' s' ∧ D.nx σ' H'
  | .brk => ∃ σ' H', Inv X pins σ' H' s' ∧ D.bk σ' H'
  | .cont => ∃ σ' H', Inv X pins σ' H' s' ∧ D.ct σ' H'
  | .ret u => ∃ v σ' H', Inv X pins σ' H' s' ∧ RelV v u ∧ D.rt v H'

def PE (X : Cx) (e : Expr) (t : TE) : Prop :=
  ∀ (pins : List (Addr × Obj)) (s : Shared) (σ : St) (H : Hp) (Q : VK), Inv X pins σ H s → t σ H Q → wpAny (model X.prog X.w) X.A (eval e X.env) (EP X pins σ Q) X.xe s
def PT (X : Cx) (e : Expr) (t : TT) : Prop :=
  ∀ (pins : List (Addr × Obj)) (s : Shared) (σ : St) (H : Hp) (Q : Bool → Hp → Prop), Inv X pins σ H s → t σ H Q → wpAny (model X.prog X.w) X.A (isTrue e X.env (eval e X.env)) (TP X pins σ Q) X.xe s
/-- a test whatever its 'whole' is (and, or) -/
def PW (X : Cx) (e : Expr) (t : TT) : Prop :=
  ∀ (whole : Sem Value) (pins : List (Addr × Obj)) (s : Shared) (σ : St) (H : Hp) (Q : Bool → Hp → Prop), Inv X pins σ H s → t σ H Q → wpAny (model X.prog X.w) X.A (isTrue e X.env whole) (TP X pins σ Q) X.xe s
theorem PW.pt {X : Cx} {e : Expr} {t : TT} (h : PW X e t) : PT X e t := h _
/-- an argument list (no star), from the left -/
def PA (X : Cx) (es : List Expr) (t : TA) : Prop :=
  ∀ (pos : Pos) (pins : List (Addr × Obj)) (s : Shared) (σ : St) (H : Hp) (Q : List V → Hp → Prop), Inv X pins σ H s → t σ H Q → wpAny (model X.prog X.w) X.A (spliced (backTo pos (starEach es X.env))) (AP X pins σ Q) X.xe s
def PS (X : Cx) (st : Stmt) (t : TS) : Prop :=
  ∀ (pins : List (Addr × Obj)) (s : Shared) (σ : St) (H : Hp) (D : Ends), Inv X pins σ H s → t D σ H → wpAny (model X.prog X.w) X.A (exec st X.env) (SP X pins D) X.xe s
def PSs (X : Cx) (st : List Stmt) (t : TS) : Prop :=
  ∀ (pins : List (Addr × Obj)) (s : Shared) (σ : St) (H : Hp) (D : Ends), Inv X pins σ H s → t D σ H → wpAny (model X.prog X.w) X.A (execs st X.env) (SP X pins D) X.xe s
/-- weaken the end -/
theorem thn {α : Type} {t : Sem α} {Q Q' : α → Shared → Prop} {M : Model} {A : Around} {E : Value → Shared → Prop} {s : Shared} (h : wpAny M A t Q E s) (hQ : ∀ a s, Q a s → Q' a s) : wpAny M A t Q' E s := wpAny_mono h hQ fun _ _ x => x
end L2

namespace L2
open PySem PySem.Spec PyProof.Rows
section
variable {X : Cx}

/-- two expressions in a row -/
theorem bin {a b : Expr} {ta tb : TE} (ha : PE X a ta) (hb : PE X b tb) {pins : List (Addr × Obj)} {s : Shared} {σ : St} {H : Hp} {R : V → V → Hp → Prop} (I : Inv X pins σ H s) (h : ta σ H fun x H1 => tb σ H1 fun y H2 => R x y H2)
    {α : Type} {Q : α → Shared → Prop} {f : Value → Value → Sem α}
    (hf : ∀ v u s2 x y H2, Inv X pins σ H2 s2 → RelV x v → RelV y u → R x y H2 → wpAny (model X.prog X.w) X.A (f v u) Q X.xe s2) :
    wpAny (model X.prog X.w) X.A (eval a X.env) (fun v s₁ => wpAny (model X.prog X.w) X.A (eval b X.env) (fun u s₂ => wpAny (model X.prog X.w) X.A (f v u) Q X.xe s₂) X.xe s₁) X.xe s := by
  refine thn (ha pins s σ H _ I h) fun v s1 ⟨x, H1, I1, r1, q1⟩ => ?_
  refine thn (hb pins s1 σ H1 _ I1 q1) fun u s2 ⟨y, H2, I2, r2, q2⟩ => ?_
  exact hf v u s2 x y H2 I2 r1 r2 q2

/-! ### names and constants -/
def tVar (i : Nat) : TE := fun σ H Q => ∃ v, σ[i]? = some (some v) ∧ Q v H
def tC (v : V) : TE := fun _ H Q => Q v H
theorem pe_var {i : Nat} {x : Str} {pos : Pos} (hN : X.N[i]? = some x) (hv : Vis X.env.scope x) (hd : (x == ("__debug__" : Str)) = false := by decide) (hcd : (x == ("__classdict__" : Str)) = false := by decide) : PE X (.Name x pos) (tVar i) := by
  intro pins s σ H Q I h
  obtain ⟨v, e, h⟩ := h
  obtain ⟨m, hn, hl⟩ := I.loc
  obtain ⟨u, r, l⟩ := hl i x v hN e hv
  have fin : EP X pins σ Q u s := ⟨v, H, I, r, h⟩
  rcases l with ⟨hk, hm⟩ | ⟨hk, c, hc, hcell⟩
  · exact wpAny_Name (wpAny_loadName_local I.ok.kind hk hn hm fin) hd
  · rcases hk with hk | hk
    · exact wpAny_Name (wpAny_loadName_cell I.ok.kind hk hc hcell fin) hd
    · exact wpAny_Name (wpAny_loadName_free I.ok.kind hk hc hcell fin hcd) hd
theorem pe_int {i j pos} : PE X (.Constant (.int i) j pos) (tC (.int i)) := fun _ _ _ H _ I h => wpAny_Constant_int ⟨.int i, H, I.tok _, ⟨_, rfl⟩, h⟩
theorem pe_bl {b j pos} : PE X (.Constant (.bool b) j pos) (tC (.bl b)) := fun _ _ _ H _ I h => Constant_bool ⟨.bl b, H, I, rfl, h⟩
theorem pe_non {j pos} : PE X (.Constant .none j pos) (tC .non) := fun _ _ _ H _ I h => Constant_none ⟨.non, H, I, rfl, h⟩
theorem pe_str {x j pos} : PE X (.Constant (.str x) j pos) (tC (.str x)) := fun _ _ _ H _ I h => Calls.Constant_str ⟨.str x, H, I.tok _, ⟨_, rfl⟩, h⟩

/-- a global name of the def -/
def Gl (X : Cx) (x : Str) : Prop := X.env.kindOf x = some .globalImplicit
theorem ld_glob {E : Value → Shared → Prop} {pins : List (Addr × Obj)} {s : Shared} {σ : St} {H : Hp} {x : Str} {u : Value} {pos : Pos} {Q : Value → Shared → Prop} (I : Inv X pins σ H s) (hg : Gl X x) (hm : X.mg x = some u) (h : Q u s)
    (hd : (x == ("__debug__" : Str)) = false := by decide) : wpAny (model X.prog X.w) X.A (eval (.Name x pos) X.env) Q E s :=
  Calls.Name_function_global I.ok.kind hg (Calls.loadGlobal_global (by rw [I.ok.glob]; exact I.mod.glob.keeps I.bk) hm h) hd
theorem ld_blt {E : Value → Shared → Prop} {pins : List (Addr × Obj)} {s : Shared} {σ : St} {H : Hp} {x : Str} {u : Value} {pos : Pos} {Q : Value → Shared → Prop} (I : Inv X pins σ H s) (hg : Gl X x) (hm : X.mg x = none) (hv : bootBuiltins x = some u) (h : Q u s)
    (hn : x ≠ "__name__" := by decide) (hd : (x == ("__debug__" : Str)) = false := by decide) : wpAny (model X.prog X.w) X.A (eval (.Name x pos) X.env) Q E s := by
  obtain ⟨mb, h1, h2⟩ := I.mod.blt
  exact Calls.Name_function_global I.ok.kind hg (Calls.loadGlobal_builtin (by rw [I.ok.glob]; exact I.mod.glob.keeps I.bk) hm (by rw [I.ok.blt]; exact h1.keeps I.bk) ((h2 x hn).trans hv) h) hd
/-- a module's constant, a class, a function, as a value -/
theorem pe_glob {x : Str} {v : V} {u : Value} {pos : Pos} (hg : Gl X x) (hm : X.mg x = some u) (r : RelV v u) (hd : (x == ("__debug__" : Str)) = false := by decide) : PE X (.Name x pos) (tC v) :=
  fun _ _ _ H _ I h => ld_glob I hg hm ⟨v, H, I, r, h⟩ hd
theorem pe_bltn {x : Str} {v : V} {u : Value} {pos : Pos} (hg : Gl X x) (hm : X.mg x = none) (hv : bootBuiltins x = some u) (r : RelV v u) (hn : x ≠ "__name__" := by decide) (hd : (x == ("__debug__" : Str)) = false := by decide) : PE X (.Name x pos) (tC v) :=
  fun _ _ _ H _ I h => ld_blt I hg hm hv ⟨v, H, I, r, h⟩ hn hd

/-! ### arithmetic -/
/-- two ints -/
def t2I (ta tb : TE) (k : Int → Int → Hp → Prop) : St → Hp → Prop := fun σ H => ta σ H fun x H1 => tb σ H1 fun y H2 => ∃ i j, x = .int i ∧ y = .int j ∧ k i j H2
def tAdd (ta tb : TE) : TE := fun σ H Q => t2I ta tb (fun i j H2 => Q (.int (i + j)) H2) σ H
def tSub (ta tb : TE) : TE := fun σ H Q => t2I ta tb (fun i j H2 => Q (.int (i - j)) H2) σ H
/-- the left factor below 2^64 -/
def tMul (ta tb : TE) : TE := fun σ H Q => t2I ta tb (fun i j H2 => (-(2 ^ 64) < i ∧ i < 2 ^ 64) ∧ Q (.int (i * j)) H2) σ H
variable {a b : Expr} {ta tb : TE} {pos : Pos}
theorem pe_add (ha : PE X a ta) (hb : PE X b tb) : PE X (.BinOp a .Add b pos) (tAdd ta tb) := by
  intro pins s σ H Q I h
  refine wpAny_BinOp (bin ha hb I h fun v u s2 x y H2 I2 rx ry q => ?_)
  obtain ⟨i, j, rfl, rfl, q⟩ := q
  obtain ⟨t, rfl⟩ := rx
  obtain ⟨t', rfl⟩ := ry
  exact add_int ⟨.int _, H2, I2.tok _, ⟨_, rfl⟩, q⟩
theorem pe_sub (ha : PE X a ta) (hb : PE X b tb) : PE X (.BinOp a .Sub b pos) (tSub ta tb) := by
  intro pins s σ H Q I h
  refine wpAny_BinOp (bin ha hb I h fun v u s2 x y H2 I2 rx ry q => ?_)
  obtain ⟨i, j, rfl, rfl, q⟩ := q
  obtain ⟨t, rfl⟩ := rx
  obtain ⟨t', rfl⟩ := ry
  exact sub_int ⟨.int _, H2, I2.tok _, ⟨_, rfl⟩, q⟩
theorem pe_mul (ha : PE X a ta) (hb : PE X b tb) : PE X (.BinOp a .Mult b pos) (tMul ta tb) := by
  intro pins s σ H Q I h
  refine wpAny_BinOp (bin ha hb I h fun v u s2 x y H2 I2 rx ry q => ?_)
  obtain ⟨i, j, rfl, rfl, ⟨q1, q2⟩, q⟩ := q
  obtain ⟨t, rfl⟩ := rx
  obtain ⟨t', rfl⟩ := ry
  exact mul_int ⟨.int _, H2, I2.tok _, ⟨_, rfl⟩, q⟩ (.of_left (intBits_le_64 q1 q2))

/-! ### comparisons -/
def PC (X : Cx) (op : CmpOp) (a b : Expr) (t : TE) : Prop :=
  ∀ (pins : List (Addr × Obj)) (s : Shared) (σ : St) (H : Hp) (Q : VK), Inv X pins σ H s → t σ H Q →
    wpAny (model X.prog X.w) X.A (eval a X.env) (fun v s₁ => wpAny (model X.prog X.w) X.A (eval b X.env) (fun u s₂ => wpAny (model X.prog X.w) X.A (compareOp op v u) (EP X pins σ Q) X.xe s₂) X.xe s₁) X.xe s
theorem nobehind (b : Expr) {op : CmpOp} (h : op ≠ .In) (h2 : op ≠ .NotIn) : behindInMarks op b = false := by
  have e1 : (op == CmpOp.In) = false := by cases op <;> first | rfl | exact absurd rfl h
  have e2 : (op == CmpOp.NotIn) = false := by cases op <;> first | rfl | exact absurd rfl h2
  cases b <;> simp [behindInMarks, e1, e2]
def tCmp (p : Int → Int → Bool) (ta tb : TE) : TE := fun σ H Q => t2I ta tb (fun i j H2 => Q (.bl (p i j)) H2) σ H
abbrev tLt : TE → TE → TE := tCmp fun i j => decide (i < j)
abbrev tLe : TE → TE → TE := tCmp fun i j => decide (i ≤ j)
abbrev tGt : TE → TE → TE := tCmp fun i j => decide (j < i)
abbrev tGe : TE → TE → TE := tCmp fun i j => decide (j ≤ i)
abbrev tEqI : TE → TE → TE := tCmp fun i j => decide (i = j)
abbrev tNeI : TE → TE → TE := tCmp fun i j => !decide (i = j)
/-- a comparison of two ints, by its rule -/
theorem pc_int {op : CmpOp} {p : Int → Int → Bool} (ha : PE X a ta) (hb : PE X b tb)
    (rule : ∀ (i j : Int) (t u : Tok) (Q : Value → Shared → Prop) (s : Shared), Q (.bool (p i j)) s → wpAny (model X.prog X.w) X.A (compareOp op (.int i t) (.int j u)) Q X.xe s) : PC X op a b (tCmp p ta tb) := by
  intro pins s σ H Q I h
  refine bin ha hb I h fun v u s2 x y H2 I2 rx ry q => ?_
  obtain ⟨i, j, rfl, rfl, q⟩ := q
  obtain ⟨t, rfl⟩ := rx
  obtain ⟨t', rfl⟩ := ry
  exact rule i j t t' _ s2 ⟨.bl _, H2, I2, rfl, q⟩
theorem pc_lt (ha : PE X a ta) (hb : PE X b tb) : PC X .Lt a b (tLt ta tb) := pc_int ha hb fun _ _ _ _ _ _ h => lt_int h
theorem pc_le (ha : PE X a ta) (hb : PE X b tb) : PC X .LtE a b (tLe ta tb) := pc_int ha hb fun _ _ _ _ _ _ h => le_int h
theorem pc_gt (ha : PE X a ta) (hb : PE X b tb) : PC X .Gt a b (tGt ta tb) := pc_int ha hb fun _ _ _ _ _ _ h => gt_int h
theorem pc_ge (ha : PE X a ta) (hb : PE X b tb) : PC X .GtE a b (tGe ta tb) := pc_int ha hb fun _ _ _ _ _ _ h => ge_int h
theorem pc_eqI (ha : PE X a ta) (hb : PE X b tb) : PC X .Eq a b (tEqI ta tb) := pc_int ha hb fun _ _ _ _ _ _ h => eq_int (by rw [Bool.beq_eq_decide_eq]; exact h)
theorem pc_neI (ha : PE X a ta) (hb : PE X b tb) : PC X .NotEq a b (tNeI ta tb) := pc_int ha hb fun _ _ _ _ _ _ h => ne_int (by rw [bne, Bool.beq_eq_decide_eq]; exact h)
/-- is None -/
def tIsN (ta : TE) : TE := fun σ H Q => ta σ H fun x H1 => Q (.bl (decide (x = .non))) H1
def tNotN (ta : TE) : TE := fun σ H Q => ta σ H fun x H1 => Q (.bl (!decide (x = .non))) H1
theorem RelV.none_iff {x : V} {v : Value} (r : RelV x v) : (v == Value.none) = decide (x = .non) := by
  cases x with
  | non => cases r; rfl
  | bl _ => cases r; rfl
  | int _ => obtain ⟨t, rfl⟩ := r; rfl
  | str _ => obtain ⟨t, rfl⟩ := r; rfl
  | byt _ => obtain ⟨t, rfl⟩ := r; rfl
  | flt _ => obtain ⟨t, rfl⟩ := r; rfl
  | ref _ => cases r; rfl
  | ty _ => cases r; rfl
theorem pc_isN {j pos'} (ha : PE X a ta) : PC X .Is a (.Constant .none j pos') (tIsN ta) := by
  intro pins s σ H Q I h
  refine thn (ha pins s σ H _ I h) fun v s1 ⟨x, H1, I1, r1, q1⟩ => ?_
  exact Constant_none (is_none_gen ⟨.bl _, H1, I1, by rw [r1.none_iff]; rfl, q1⟩)
theorem pc_notN {j pos'} (ha : PE X a ta) : PC X .IsNot a (.Constant .none j pos') (tNotN ta) := by
  intro pins s σ H Q I h
  refine thn (ha pins s σ H _ I h) fun v s1 ⟨x, H1, I1, r1, q1⟩ => ?_
  exact Constant_none (isnot_none_gen ⟨.bl _, H1, I1, by rw [r1.none_iff]; rfl, q1⟩)
/-- a comparison as a value, as a test -/
def tB (t : TE) : TT := fun σ H Q => t σ H fun x H1 => ∃ c, x = .bl c ∧ Q c H1
theorem pe_cmp {op : CmpOp} {t : TE} (h : PC X op a b t) (h1 : behindInMarks op b = false := by first | exact nobehind _ (by decide) (by decide) | rfl) : PE X (.Compare a [op] [b] pos) t := fun pins s σ H Q I hw => wpAny_Compare1 (h pins s σ H Q I hw) h1
theorem pt_cmp {op : CmpOp} {t : TE} (h : PC X op a b t) (h1 : behindInMarks op b = false := by first | exact nobehind _ (by decide) (by decide) | rfl) : PT X (.Compare a [op] [b] pos) (tB t) := by
  intro pins s σ H Q I hw
  refine wpAny_isTrue_Compare1 (thn (h pins s σ H _ I hw) fun v s1 h1 => thn h1 fun u s2 h2 => thn h2 fun c s3 ⟨x, H1, I1, r1, q1⟩ => ?_) h1
  obtain ⟨d, rfl, q⟩ := q1
  cases r1
  exact wpAny_truthy_bool ⟨H1, I1, q⟩
/-- an expression whose value is a bool, as a test -/
theorem pt_val {e : Expr} {t : TE} (h : PE X e t) (he : ∀ whole, isTrue e X.env whole = (do let v ← whole; standAt e.pos; holding [v] (truthy v)) := by intro _; rfl) : PT X e (tB t) := by
  intro pins s σ H Q I hw
  refine isTrue_plain (thn (h pins s σ H _ I hw) fun v s1 ⟨x, H1, I1, r1, q1⟩ => ?_) (he _)
  obtain ⟨d, rfl, q⟩ := q1
  cases r1
  exact wpAny_truthy_bool ⟨H1, I1, q⟩

/-! ### and, or, not -/
variable {tA tB' : TT} {rest : List Expr}
def tAnd (t u : TT) : TT := fun σ H Q => t σ H fun c H1 => if c = true then u σ H1 Q else Q false H1
def tOr (t u : TT) : TT := fun σ H Q => t σ H fun c H1 => if c = true then Q true H1 else u σ H1 Q
def tNot (t : TT) : TT := fun σ H Q => t σ H fun c H1 => Q (!c) H1
theorem pw_and1 (ha : PT X a tA) : PW X (.BoolOp .And [a] pos) tA := by
  intro wh pins s σ H Q I h
  refine isTrue_and (thn (ha pins s σ H Q I h) fun c s1 e => ?_)
  cases c with
  | true => exact isTrue_and_nil e
  | false => exact e
theorem pw_or1 (ha : PT X a tA) : PW X (.BoolOp .Or [a] pos) tA := by
  intro wh pins s σ H Q I h
  refine isTrue_or (thn (ha pins s σ H Q I h) fun c s1 e => ?_)
  cases c with
  | false => exact isTrue_or_nil e
  | true => exact e
theorem pw_and (ha : PT X a tA) (hb : PW X (.BoolOp .And (b :: rest) pos) tB') : PW X (.BoolOp .And (a :: b :: rest) pos) (tAnd tA tB') := by
  intro wh pins s σ H Q I h
  refine isTrue_and (thn (ha pins s σ H _ I h) fun c s1 ⟨H1, I1, q1⟩ => ?_)
  cases c with
  | true => exact hb wh pins s1 σ H1 Q I1 q1
  | false => exact ⟨H1, I1, q1⟩
theorem pw_or (ha : PT X a tA) (hb : PW X (.BoolOp .Or (b :: rest) pos) tB') : PW X (.BoolOp .Or (a :: b :: rest) pos) (tOr tA tB') := by
  intro wh pins s σ H Q I h
  refine isTrue_or (thn (ha pins s σ H _ I h) fun c s1 ⟨H1, I1, q1⟩ => ?_)
  cases c with
  | true => exact ⟨H1, I1, q1⟩
  | false => exact hb wh pins s1 σ H1 Q I1 q1
theorem pt_not (ha : PT X a tA) : PT X (.UnaryOp .Not a pos) (tNot tA) := by
  intro pins s σ H Q I h
  exact isTrue_not (ha pins s σ H (fun c H1 => Q (!c) H1) I h)
/-- .. as values (bools) -/
def tAndV (ta tb : TE) : TE := fun σ H Q => ta σ H fun x H1 => ∃ c, x = .bl c ∧ if c = true then tb σ H1 Q else Q (.bl false) H1
def tOrV (ta tb : TE) : TE := fun σ H Q => ta σ H fun x H1 => ∃ c, x = .bl c ∧ if c = true then Q (.bl true) H1 else tb σ H1 Q
def tNotV (ta : TE) : TE := fun σ H Q => ta σ H fun x H1 => ∃ c, x = .bl c ∧ Q (.bl (!c)) H1
theorem pe_one {op} {t : TE} (h : PE X a t) : PE X (.BoolOp op [a] pos) t := fun pins s σ H Q I hw => BoolOp_one (h pins s σ H Q I hw)
theorem pe_and (ha : PE X a ta) (hb : PE X (.BoolOp .And (b :: rest) pos) tb) : PE X (.BoolOp .And (a :: b :: rest) pos) (tAndV ta tb) := by
  intro pins s σ H Q I h
  refine BoolOp_and (thn (ha pins s σ H _ I h) fun v s1 ⟨x, H1, I1, r1, q1⟩ => ?_)
  obtain ⟨c, rfl, q1⟩ := q1
  cases r1
  refine wpAny_truthy_bool ?_
  cases c with
  | true => exact hb pins s1 σ H1 Q I1 q1
  | false => exact ⟨.bl false, H1, I1, rfl, q1⟩
theorem pe_or (ha : PE X a ta) (hb : PE X (.BoolOp .Or (b :: rest) pos) tb) : PE X (.BoolOp .Or (a :: b :: rest) pos) (tOrV ta tb) := by
  intro pins s σ H Q I h
  refine BoolOp_or (thn (ha pins s σ H _ I h) fun v s1 ⟨x, H1, I1, r1, q1⟩ => ?_)
  obtain ⟨c, rfl, q1⟩ := q1
  cases r1
  refine wpAny_truthy_bool ?_
  cases c with
  | false => exact hb pins s1 σ H1 Q I1 q1
  | true => exact ⟨.bl true, H1, I1, rfl, q1⟩
theorem pe_not (ha : PE X a ta) : PE X (.UnaryOp .Not a pos) (tNotV ta) := by
  intro pins s σ H Q I h
  refine UnaryOp_ (thn (ha pins s σ H _ I h) fun v s1 ⟨x, H1, I1, r1, q1⟩ => ?_)
  obtain ⟨c, rfl, q1⟩ := q1
  cases r1
  exact not_of (wpAny_truthy_bool ⟨.bl (!c), H1, I1, rfl, q1⟩)
/-- a if t else b -/
def tIf (t : TT) (ta tb : TE) : TE := fun σ H Q => t σ H fun c H1 => if c = true then ta σ H1 Q else tb σ H1 Q
theorem pe_ifExp {c : Expr} (hc : PT X c tA) (ha : PE X a ta) (hb : PE X b tb) : PE X (.IfExp c a b pos) (tIf tA ta tb) := by
  intro pins s σ H Q I h
  refine wpAny_IfExp (thn (hc pins s σ H _ I h) fun d s1 ⟨H1, I1, q1⟩ => ?_)
  cases d with
  | true => exact ha pins s1 σ H1 Q I1 q1
  | false => exact hb pins s1 σ H1 Q I1 q1
end
end L2

namespace L2
open PySem PySem.Spec PyProof.Rows

/-! ### a list, a tuple that is read: tracked, frozen, or an object of the module -/
def SqL (K : PySem.W.Frag) (H : Hp) (a : Addr) (xs : List V) : Prop :=
  Rd H a (.lst xs) ∨
    ∃ (o : Obj) (its : Array Value) (n : Nat), K.lookup a = some o ∧ o.cls = .type "list" ∧ o.dict = none ∧ o.data = .seq its n ∧ its.size ≤ sizeLine ∧ Vals xs its.toList
def SqT (K : PySem.W.Frag) (H : Hp) (a : Addr) (xs : List V) : Prop :=
  Rd H a (.tup xs) ∨
    ∃ (o : Obj) (its : Array Value) (n : Nat), K.lookup a = some o ∧ o.cls = .type "tuple" ∧ o.data = .seq its n ∧ its.size ≤ sizeLine ∧ Vals xs its.toList
def absV : Value → Option V
  | .none => some .non
  | .bool b => some (.bl b)
  | .int i _ => some (.int i)
  | .str x _ => some (.str x)
  | .bytes b _ => some (.byt b)
  | .float b _ => some (.flt b)
  | .ref a => some (.ref a)
  | .type n => some (.ty n)
  | _ => none
theorem RelV.abs {x : V} {u : Value} (r : RelV x u) : absV u = some x := by
  cases x with
  | non => cases r; rfl
  | bl _ => cases r; rfl
  | int _ => obtain ⟨t, rfl⟩ := r; rfl
  | str _ => obtain ⟨t, rfl⟩ := r; rfl
  | byt _ => obtain ⟨t, rfl⟩ := r; rfl
  | flt _ => obtain ⟨t, rfl⟩ := r; rfl
  | ref _ => cases r; rfl
  | ty _ => cases r; rfl
theorem RelV.inj {x y : V} {u : Value} (r : RelV x u) (q : RelV y u) : x = y := Option.some.inj (r.abs.symm.trans q.abs)
theorem Vals.inj : ∀ {xs ys : List V} {us : List Value}, Vals xs us → Vals ys us → xs = ys
  | _, _, _, .nil, .nil => rfl
  | _, _, _, .cons r t, .cons r' t' => by rw [r.inj r', Vals.inj t t']
section
variable {X : Cx} {pins : List (Addr × Obj)} {σ : St} {H : Hp} {s : Shared} {a : Addr} {xs ys : List V}
theorem SqL.of {K : PySem.W.Frag} (h : H a = some (.lst xs)) : SqL K H a xs := .inl (.inl h)
theorem SqT.of {K : PySem.W.Frag} (h : H a = some (.tup xs)) : SqT K H a xs := .inl (.inl h)
theorem Inv.list (I : Inv X pins σ H s) (h : SqL X.K H a xs) : ∃ its : List Value, Vals xs its ∧ PlainL s.heap a its.toArray ∧ xs.length ≤ sizeLine := by
  rcases h with h | ⟨o, its, n, hk, hc, hd, hs, hz, r⟩
  · obtain ⟨z, its, n, r, e⟩ := h.ok I.hok
    exact ⟨its, r, ⟨_, n, e, rfl, rfl, rfl⟩, z⟩
  · refine ⟨its.toList, r, ⟨o, n, I.kIn a o hk, hc, hd, by simpa using hs⟩, ?_⟩
    have e := r.length
    simp only [Array.length_toList] at e
    omega
theorem Inv.tuple (I : Inv X pins σ H s) (h : SqT X.K H a xs) : ∃ its : List Value, Vals xs its ∧ IsTup s.heap a its.toArray ∧ xs.length ≤ sizeLine := by
  rcases h with h | ⟨o, its, n, hk, hc, hs, hz, r⟩
  · obtain ⟨z, its, r, p⟩ := h.ok I.hok
    exact ⟨its, r, p, z⟩
  · refine ⟨its.toList, r, ⟨o, I.kIn a o hk, hc, n, by simpa using hs⟩, ?_⟩
    have e := r.length
    simp only [Array.length_toList] at e
    omega
theorem Inv.list_inj (I : Inv X pins σ H s) (h : SqL X.K H a xs) (h' : SqL X.K H a ys) : xs = ys := by
  obtain ⟨its, r, ⟨o, n, e, _, _, d⟩, _⟩ := I.list h
  obtain ⟨its', r', ⟨o', n', e', _, _, d'⟩, _⟩ := I.list h'
  rw [e] at e'; cases e'
  rw [d] at d'
  injection d' with d1 _
  have : its = its' := by simpa using congrArg Array.toList d1
  subst this
  exact r.inj r'
theorem Inv.tuple_inj (I : Inv X pins σ H s) (h : SqT X.K H a xs) (h' : SqT X.K H a ys) : xs = ys := by
  obtain ⟨its, r, ⟨o, e, _, n, d⟩, _⟩ := I.tuple h
  obtain ⟨its', r', ⟨o', e', _, n', d'⟩, _⟩ := I.tuple h'
  rw [e] at e'; cases e'
  rw [d] at d'
  injection d' with d1 _
  have : its = its' := by simpa using congrArg Array.toList d1
  subst this
  exact r.inj r'
end

/-! ### another wish about exceptions -/
abbrev Cx.wish (X : Cx) (E : Value → Shared → Prop) : Cx := { X with xe := E }
/-- no exception leaves -/
abbrev Cx.nox (X : Cx) : Cx := X.wish fun _ _ => False
theorem Cx.Ok.wish {X : Cx} (ok : X.Ok) (E : Value → Shared → Prop) : (X.wish E).Ok :=
  ⟨ok.mod, ok.kind, ok.glob, ok.blt, ok.above, ok.inj, ok.has, ok.cab, ok.hd, ok.frames, ok.stk, ok.exf, ok.bs, ok.bsz, ok.noex, ok.exfs, ok.funs, ok.frf⟩
theorem Cx.Ok.unwish {X : Cx} {E : Value → Shared → Prop} (ok : (X.wish E).Ok) : X.Ok :=
  ⟨ok.mod, ok.kind, ok.glob, ok.blt, ok.above, ok.inj, ok.has, ok.cab, ok.hd, ok.frames, ok.stk, ok.exf, ok.bs, ok.bsz, ok.noex, ok.exfs, ok.funs, ok.frf⟩
section
variable {X : Cx} {pins : List (Addr × Obj)} {σ : St} {H : Hp} {s : Shared} {E : Value → Shared → Prop}
theorem Inv.wish (I : Inv X pins σ H s) (E : Value → Shared → Prop) : Inv (X.wish E) pins σ H s := ⟨I.ok.wish E, I.os, I.bare, I.base, I.loc, I.cell, I.free, I.freeC, I.pin, I.hok, I.len⟩
theorem Inv.unwish (I : Inv (X.wish E) pins σ H s) : Inv X pins σ H s := ⟨I.ok.unwish, I.os, I.bare, I.base, I.loc, I.cell, I.free, I.freeC, I.pin, I.hok, I.len⟩
theorem SP.unwish {D : Ends} {f : Flow} {s' : Shared} (h : SP (X.wish E) pins D f s') : SP X pins D f s' := by
  cases f with
  | next => obtain ⟨σ', H', I, q⟩ := h; exact ⟨σ', H', I.unwish, q⟩
  | brk => obtain ⟨σ', H', I, q⟩ := h; exact ⟨σ', H', I.unwish, q⟩
  | cont => obtain ⟨σ', H', I, q⟩ := h; exact ⟨σ', H', I.unwish, q⟩
  | ret u => obtain ⟨v, σ', H', I, r, q⟩ := h; exact ⟨v, σ', H', I.unwish, r, q⟩
theorem PE.nox {e : Expr} {t : TE} (h : PE X.nox e t) : PE X e t := fun pins s σ H Q I hw =>
  wpAny_mono (h pins s σ H Q (I.wish _) hw) (fun _ _ ⟨v, H', I', r, q⟩ => ⟨v, H', I'.unwish, r, q⟩) fun _ _ z => False.elim z
theorem PT.nox {e : Expr} {t : TT} (h : PT X.nox e t) : PT X e t := fun pins s σ H Q I hw =>
  wpAny_mono (h pins s σ H Q (I.wish _) hw) (fun _ _ ⟨H', I', q⟩ => ⟨H', I'.unwish, q⟩) fun _ _ z => False.elim z
theorem PSs.nox {st : List Stmt} {t : TS} (h : PSs X.nox st t) : PSs X st t := fun pins s σ H D I hw =>
  wpAny_mono (h pins s σ H D (I.wish _) hw) (fun _ _ q => q.unwish) fun _ _ z => False.elim z
end

/-! ### blocks and small statements -/
section
variable {X : Cx} {st : Stmt} {rest : List Stmt} {t u : TS} {e : Expr} {te : TE} {pos : Pos}
def tNext : TS := fun D σ H => D.nx σ H
def tSeq (t u : TS) : TS := fun D σ H => t { D with nx := u D } σ H
theorem pss_nil : PSs X [] tNext := fun _ _ σ H _ I h => wpAny_execs_nil ⟨σ, H, I, h⟩
theorem pss_cons (h1 : PS X st t) (h2 : PSs X rest u) : PSs X (st :: rest) (tSeq t u) := by
  intro pins s σ H D I h
  refine wpAny_execs_cons (thn (h1 pins s σ H { D with nx := u D } I h) fun f s1 q => ?_)
  cases f with
  | next =>
    obtain ⟨σ', H', I', q⟩ := q
    exact h2 pins s1 σ' H' D I' q
  | ret v => exact q
  | brk => exact q
  | cont => exact q
theorem pss_one (h1 : PS X st t) : PSs X [st] t := by
  intro pins s σ H D I h
  refine wpAny_execs_cons (thn (h1 pins s σ H D I h) fun f s1 q => ?_)
  cases f with
  | next => exact wpAny_execs_nil q
  | ret v => exact q
  | brk => exact q
  | cont => exact q
def tBreak : TS := fun D σ H => D.bk σ H
def tCont : TS := fun D σ H => D.ct σ H
theorem ps_pass : PS X (.Pass pos) tNext := fun _ _ σ H _ I h => wpAny_Pass ⟨σ, H, I, h⟩
theorem ps_break : PS X (.Break pos) tBreak := fun _ _ σ H _ I h => wpAny_Break ⟨σ, H, I, h⟩
theorem ps_continue : PS X (.Continue pos) tCont := fun _ _ σ H _ I h => wpAny_Continue ⟨σ, H, I, h⟩
/-- in a def's body nothing is shown -/
theorem Inv.quiet {pins : List (Addr × Obj)} {σ : St} {H : Hp} {s : Shared} (I : Inv X pins σ H s) : interactive X.env = false := by simp [interactive, I.ok.kind]
/-- a docstring -/
theorem ps_doc {x j pos pos'} : PS X (.Expr (.Constant (.str x) j pos) pos') tNext := fun _ s σ H _ I h => wpAny_Expr (Calls.Constant_str (show SP X _ _ .next { s with toks := s.toks + 1 } from ⟨σ, H, I.tok _, h⟩)) I.quiet
/-- an expression whose value is dropped -/
def tDrop (te : TE) : TS := fun D σ H => te σ H fun _ H1 => D.nx σ H1
theorem ps_expr (he : PE X e te) (hs : swapsWith e none pos.line X.env = pure false := by rfl) : PS X (.Expr e pos) (tDrop te) := by
  intro pins s σ H D I h
  exact wpAny_Expr_any (thn (he pins s σ H _ I h) fun v s1 ⟨x, H1, I1, r1, q1⟩ => ⟨σ, H1, I1, q1⟩) I.quiet hs
def tRet (te : TE) : TS := fun D σ H => te σ H D.rt
theorem ps_ret (he : PE X e te) : PS X (.Return (some e) pos) (tRet te) := by
  intro pins s σ H D I h
  exact wpAny_Return_some (thn (he pins s σ H _ I h) fun v s1 ⟨x, H1, I1, r1, q1⟩ => ⟨x, σ, H1, I1, r1, q1⟩)
def tRetN : TS := fun D _ H => D.rt .non H
theorem ps_retN : PS X (.Return none pos) tRetN := fun _ _ σ H _ I h => wpAny_Return_none ⟨.non, σ, H, I, rfl, h⟩
def tIfS (c : TT) (t u : TS) : TS := fun D σ H => c σ H fun b H1 => if b = true then t D σ H1 else u D σ H1
theorem ps_if {c : Expr} {a b : List Stmt} {tc : TT} (hc : PT X c tc) (ha : PSs X a t) (hb : PSs X b u) : PS X (.If c a b pos) (tIfS tc t u) := by
  intro pins s σ H D I h
  refine wpAny_If (thn (hc pins s σ H _ I h) fun d s1 ⟨H1, I1, q1⟩ => ?_)
  cases d with
  | true => exact ha pins s1 σ H1 D I1 q1
  | false => exact hb pins s1 σ H1 D I1 q1
/-- code that the proof never comes to -/
def tNever : TS := fun _ _ _ => False
theorem ps_never : PS X st tNever := fun _ _ _ _ _ _ h => h.elim
theorem pss_never {sts : List Stmt} : PSs X sts tNever := fun _ _ _ _ _ _ h => h.elim
end

/-! ### targets -/
abbrev TG := V → St → Hp → (St → Hp → Prop) → Prop
abbrev TGs := List V → St → Hp → (St → Hp → Prop) → Prop
def PG (X : Cx) (target : Expr) (t : TG) : Prop :=
  ∀ (pins : List (Addr × Obj)) (s : Shared) (σ : St) (H : Hp) (v : V) (u : Value) (Q : St → Hp → Prop), Inv X pins σ H s → RelV v u → t v σ H Q →
    wpAny (model X.prog X.w) X.A (assign target X.env u) (fun _ s' => ∃ σ' H', Inv X pins σ' H' s' ∧ Q σ' H') X.xe s
/-- several targets, one after another -/
def PGs (X : Cx) (ts : List Expr) (t : TGs) : Prop :=
  ∀ (pins : List (Addr × Obj)) (s : Shared) (σ : St) (H : Hp) (vs : List V) (us : List Value) (Q : St → Hp → Prop), Inv X pins σ H s → Vals vs us → t vs σ H Q →
    wpAny (model X.prog X.w) X.A (assignInOrder ((assignEach ts X.env).map (·.2)) us) (fun _ s' => ∃ σ' H', Inv X pins σ' H' s' ∧ Q σ' H') X.xe s
/-- o[i] = v, by values -/
abbrev TSet := V → V → V → Hp → (Hp → Prop) → Prop
def PSet (X : Cx) (t : TSet) : Prop :=
  ∀ (pins : List (Addr × Obj)) (s : Shared) (σ : St) (H : Hp) (o i v : V) (ov iv u : Value) (Q : Hp → Prop), Inv X pins σ H s → RelV o ov → RelV i iv → RelV v u → t o i v H Q →
    wpAny (model X.prog X.w) X.A (setItem ov iv u) (fun _ s' => ∃ H', Inv X pins σ H' s' ∧ Q H') X.xe s
/-- a op= b, by values -/
abbrev TIp := V → V → Hp → VK → Prop
def PIp (X : Cx) (op : Operator) (t : TIp) : Prop :=
  ∀ (pins : List (Addr × Obj)) (s : Shared) (σ : St) (H : Hp) (x y : V) (v u : Value) (Q : VK), Inv X pins σ H s → RelV x v → RelV y u → t x y H Q →
    wpAny (model X.prog X.w) X.A (inplaceOp op v u) (EP X pins σ Q) X.xe s
section
variable {X : Cx} {pos : Pos}
def gName (i : Nat) : TG := fun v σ H Q => Q (σ.set i (some v)) H
theorem pg_name {i : Nat} {x : Str} (hN : X.N.Nodup) (hi : X.N[i]? = some x) (hx : Loc X.env.scope x) (hf : X.fn x = true ∨ X.env.scope.names.lookup x = some .local := by first | exact .inl rfl | exact .inr rfl | assumption) : PG X (.Name x pos) (gName i) := by
  intro pins s σ H v u Q I r h
  exact wpAny_assign_Name (store_ok I hN hi hx r (fun s' I' => ⟨_, H, I', h⟩) hf)
def gNil : TGs := fun vs σ H Q => vs = [] ∧ Q σ H
def gCons (t : TG) (u : TGs) : TGs := fun vs σ H Q => ∃ v r, vs = v :: r ∧ t v σ H fun σ' H' => u r σ' H' Q
theorem pgs_nil : PGs X [] gNil := by
  intro pins s σ H vs us Q I r h
  obtain ⟨e, h⟩ := h
  subst e
  cases r
  exact assignInOrder_nil ⟨σ, H, I, h⟩
theorem pgs_cons {e : Expr} {es : List Expr} {t : TG} {u : TGs} (h1 : PG X e t) (h2 : PGs X es u)
    (hs : (assignEach (e :: es) X.env).map (·.2) = assign e X.env :: (assignEach es X.env).map (·.2) := by rfl) : PGs X (e :: es) (gCons t u) := by
  intro pins s σ H vs us Q I r h
  obtain ⟨v, vr, e1, h⟩ := h
  subst e1
  cases r with
  | cons r rr =>
    rw [hs]
    refine assignInOrder_cons (thn (h1 pins s σ H _ _ _ I r h) fun _ s1 ⟨σ1, H1, I1, q1⟩ => ?_)
    exact h2 pins s1 σ1 H1 _ _ Q I1 rr q1
/-- (a, b, ..) = a tuple of that length -/
def gTup (K : PySem.W.Frag) (n : Nat) (t : TGs) : TG := fun v σ H Q => ∃ a xs, v = .ref a ∧ SqT K H a xs ∧ xs.length = n ∧ t xs σ H Q
theorem pg_tup {es : List Expr} {k : Nat} {t : TGs} {n : Nat} (hc : X.calm = true) (h : PGs X es t)
    (hn : (assignEach es X.env).length = n := by rfl) (hst : (assignEach es X.env).findIdx? (·.1) = none := by rfl) : PG X (.Tuple es k pos) (gTup X.K n t) := by
  intro pins s σ H v u Q I r hw
  obtain ⟨a, xs, e1, hq, hl, hw⟩ := hw
  subst e1
  cases r
  obtain ⟨its, rv, ht, hz⟩ := I.tuple hq
  refine assign_Tuple_tuple (I.ok.hd hc) ht (by simp [hn, ← hl, rv.length]) hst fun h' hx => ?_
  have I1 : Inv X pins σ H { s with heap := h' } := I.kept (t' := s.toks) fun b o e => hx b o (Nat.ne_of_lt (Heap.lt_size e)) e
  exact h pins _ σ H xs _ Q I1 (by simpa using rv) hw
/-- o[i] = .. -/
def gSub (to ti : TE) (t : TSet) : TG := fun v σ H Q => to σ H fun o H1 => ti σ H1 fun i H2 => t o i v H2 fun H3 => Q σ H3
theorem pg_sub {o i : Expr} {to ti : TE} {t : TSet} (ho : PE X o to) (hi : PE X i ti) (hs : PSet X t)
    (ha : ∀ v, assign (.Subscript o i pos) X.env v = (do
      let ov ← holding [v] (eval o X.env)
      let iv ← holding [v, ov] (eval i X.env)
      standAt pos
      holding [v, ov, iv] (setItem ov iv v)
      release [v, ov, iv] []) := by intro _; rfl) : PG X (.Subscript o i pos) (gSub to ti t) := by
  intro pins s σ H v u Q I r h
  rw [ha]
  refine wpAny_bind (wpAny_holding (thn (ho pins s σ H _ I h) fun ov s1 ⟨x, H1, I1, r1, q1⟩ => ?_))
  refine wpAny_bind (wpAny_holding (thn (hi pins s1 σ H1 _ I1 q1) fun iv s2 ⟨y, H2, I2, r2, q2⟩ => ?_))
  refine wpAny_bind (wpAny_standAt (wpAny_bind (wpAny_holding (thn (hs pins s2 σ H2 x y v ov iv u _ I2 r1 r2 r q2) fun _ s3 ⟨H3, I3, q3⟩ => ?_))))
  exact wpAny_release ⟨σ, H3, I3, q3⟩
/-- target = value -/
def tAsg (te : TE) (g : TG) : TS := fun D σ H => te σ H fun x H1 => g x σ H1 D.nx
theorem ps_asg {tg e : Expr} {te : TE} {g : TG} (he : PE X e te) (hg : PG X tg g) (hs : swapsWithSole [tg] e pos.line X.env = pure false := by rfl) (hw : swappedStores [tg] e X.env = pure none := by rfl)
    (h1 : (assignEach [tg] X.env).map (·.2) = [assign tg X.env] := by rfl) : PS X (.Assign [tg] e pos) (tAsg te g) := by
  intro pins s σ H D I h
  refine wpAny_Assign_stores (thn (he pins s σ H _ I h) fun v s1 ⟨x, H1, I1, r1, q1⟩ => ?_) hs hw
  rw [h1]
  exact thn (hg pins s1 σ H1 x v _ I1 r1 q1) fun _ s2 q => q
/-- name = value -/
theorem ps_set {i : Nat} {x : Str} {e : Expr} {te : TE} {pos' : Pos} (hN : X.N.Nodup) (hi : X.N[i]? = some x) (hx : Loc X.env.scope x) (he : PE X e te) (hs : swapsWith e (some (.Name x pos')) pos.line X.env = pure false := by rfl) (hf : X.fn x = true ∨ X.env.scope.names.lookup x = some .local := by first | exact .inl rfl | exact .inr rfl | assumption) :
    PS X (.Assign [.Name x pos'] e pos) (tAsg te (gName i)) := by
  intro pins s σ H D I h
  refine wpAny_Assign_Name (thn (he pins s σ H _ I h) fun v s1 ⟨y, H1, I1, r1, q1⟩ => ?_) hs
  exact store_ok I1 hN hi hx r1 (fun s2 I2 => ⟨_, H1, I2, q1⟩) hf
/-- a, b = x, y with plain local names: stored from the right; the pair itself is not tracked (the opening rows as in PyProof/Rows/TupAssign.lean:23) -/
def tPar (i j : Nat) (ta : TA) : TS := fun D σ H => ta σ H fun vs H1 => ∃ v w, vs = [v, w] ∧ D.nx ((σ.set i (some v)).set j (some w)) H1
theorem ps_par {i j : Nat} {x y : Str} {a b : Expr} {ta : TA} {px py pt : Pos} {kt k2 pt2} (hc : X.calm = true) (hN : X.N.Nodup) (hi : X.N[i]? = some x) (hj : X.N[j]? = some y) (hij : i ≠ j)
    (hx : X.env.scope.names.lookup x = some .local) (hy : X.env.scope.names.lookup y = some .local) (ha : PA X [a, b] ta)
    (hw : swappedStores [.Tuple [.Name x px, .Name y py] kt pt] (.Tuple [a, b] k2 pt2) X.env = pure (some [x, y]))
    (hs : swapsWithSole [.Tuple [.Name x px, .Name y py] kt pt] (.Tuple [a, b] k2 pt2) pos.line X.env = pure false := by rfl) :
    PS X (.Assign [.Tuple [.Name x px, .Name y py] kt pt] (.Tuple [a, b] k2 pt2) pos) (tPar i j ta) := by
  intro pins s σ H D I h
  rw [exec_Assign_arm]
  refine wpAny_bind (wpAny_standAt ?_)
  rw [hs]
  refine wpAny_bind (wpAny_pure ?_)
  rw [if_neg (by decide)]
  refine wpAny_bind (Tuple_ (thn (ha _ pins s σ H _ I h) fun us s1 ⟨vs, H1, I1, r1, q1⟩ => ?_))
  obtain ⟨v, w, e1, q1⟩ := q1
  subst e1
  obtain ⟨u1, u2, rfl, rv, rw'⟩ : ∃ u1 u2, us = [u1, u2] ∧ RelV v u1 ∧ RelV w u2 := by
    cases r1 with
    | cons p q =>
      cases q with
      | cons p' q' =>
        cases q'
        exact ⟨_, _, rfl, p, p'⟩
  refine wpAny_newObj_type ?_ (by show 2 ≤ sizeLine; decide)
  have I2 : Inv X pins σ H1 { s1 with heap := s1.heap.push { cls := .type "tuple", data := .seq [u1, u2].toArray } } := I1.kept (t' := s1.toks) fun b o e => Heap.get?_push_of_some _ e
  rw [hw]
  refine wpAny_bind (wpAny_pure ?_)
  show wpAny (model X.prog X.w) X.A (do rule "assign.swapped-stores"; let items ← unpackItems (.ref s1.heap.objs.size) 2 none; assignInOrder [fun v => bindName X.env y v, fun v => bindName X.env x v] items.reverse; pure Flow.next) _ _ _
  refine wpAny_bind (wpAny_rule (wpAny_bind (unpackItems_tuple (items := #[u1, u2]) (I.ok.hd hc) (IsTup.new s1.heap _) fun h' hx' => ?_)))
  have I3 := I2.kept (h' := h') (t' := s1.toks) fun b o e => hx' b o (Nat.ne_of_lt (Heap.lt_size e)) e
  show wpAny _ _ (assignInOrder [fun v => bindName X.env y v, fun v => bindName X.env x v] [u2, u1] >>= fun _ => pure Flow.next) _ _ _
  refine wpAny_bind (assignInOrder_cons (wpAny_bindName (store_ok I3 hN hj (.inl hy) rw' (fun s2 I4 => ?_) (.inr hy))))
  refine assignInOrder_cons (wpAny_bindName (store_ok I4 hN hi (.inl hx) rv (fun s3 I5 => assignInOrder_nil (wpAny_pure ?_)) (.inr hx)))
  rw [List.set_comm _ _ (Ne.symm hij)] at I5
  exact ⟨_, H1, I5, q1⟩
/-- name op= e -/
def tAug (i : Nat) (te : TE) (ti : TIp) : TS := fun D σ H => ∃ x, σ[i]? = some (some x) ∧ te σ H fun y H1 => ti x y H1 fun z H2 => D.nx (σ.set i (some z)) H2
theorem ps_aug {i : Nat} {x : Str} {e : Expr} {te : TE} {op : Operator} {ti : TIp} {pos' : Pos} (hN : X.N.Nodup) (hi : X.N[i]? = some x) (hx : Loc X.env.scope x) (he : PE X e te) (ho : PIp X op ti) (hf : X.fn x = true ∨ X.env.scope.names.lookup x = some .local := by first | exact .inl rfl | exact .inr rfl | assumption) :
    PS X (.AugAssign (.Name x pos') op e pos) (tAug i te ti) := by
  intro pins s σ H D I h
  obtain ⟨v, e1, h⟩ := h
  obtain ⟨m, hn, hl⟩ := I.loc
  have vis : Vis X.env.scope x := by rcases hx with k | k; exact .inl k; exact .inr (.inl k)
  obtain ⟨u, r, l⟩ := hl i x v hi e1 vis
  refine wpAny_AugAssign_Name ?_
  have go : wpAny (model X.prog X.w) X.A (eval e X.env) (fun w s₂ => wpAny (model X.prog X.w) X.A (inplaceOp op u w) (fun r s₃ => wpAny (model X.prog X.w) X.A (storeName X.env x r) (fun _ => SP X pins D .next) X.xe s₃) X.xe s₂) X.xe s := by
    refine thn (he pins s σ H _ I h) fun w s1 ⟨y, H1, I1, r1, q1⟩ => ?_
    refine thn (ho pins s1 σ H1 v y u w _ I1 r r1 q1) fun z s2 ⟨zv, H2, I2, r2, q2⟩ => ?_
    exact store_ok I2 hN hi hx r2 (fun s3 I3 => ⟨_, H2, I3, q2⟩) hf
  rcases l with ⟨hk, hm⟩ | ⟨hk, c, hc, hcell⟩
  · exact wpAny_loadName_local I.ok.kind hk hn hm go
  · rcases hk with hk | hk
    · exact wpAny_loadName_cell I.ok.kind hk hc hcell go
    · rcases hx with k | k
      · have : X.env.scope.names.lookup x = some .free := hk
        rw [k] at this; cases this
      · have : X.env.scope.names.lookup x = some .free := hk
        rw [k] at this; cases this
/-- o[i] op= e -/
def tAugS (to ti te : TE) (tget : V → V → Hp → VK → Prop) (tip : TIp) (tset : TSet) : TS := fun D σ H => to σ H fun o H1 => ti σ H1 fun i H2 => tget o i H2 fun x H3 => te σ H3 fun y H4 => tip x y H4 fun z H5 => tset o i z H5 fun H6 => D.nx σ H6
/-- o[i], by values -/
def PGet (X : Cx) (t : V → V → Hp → VK → Prop) : Prop :=
  ∀ (pins : List (Addr × Obj)) (s : Shared) (σ : St) (H : Hp) (o i : V) (ov iv : Value) (Q : VK), Inv X pins σ H s → RelV o ov → RelV i iv → t o i H Q →
    wpAny (model X.prog X.w) X.A (getItem ov iv) (EP X pins σ Q) X.xe s
theorem ps_augS {o i e : Expr} {to ti te : TE} {tget : V → V → Hp → VK → Prop} {tip : TIp} {tset : TSet} {op : Operator} {tpos : Pos} (ho : PE X o to) (hi : PE X i ti) (hg : PGet X tget) (he : PE X e te) (hp : PIp X op tip) (hs : PSet X tset)
    (ha : ∀ ov iv new, augStore i ov iv new = (do holding [new, ov, iv] (setItem ov iv new); release [new, ov, iv] []; pure .next) := by intros; rfl) : PS X (.AugAssign (.Subscript o i tpos) op e pos) (tAugS to ti te tget tip tset) := by
  intro pins s σ H D I h
  refine wpAny_AugAssign_SubscriptAny (thn (ho pins s σ H _ I h) fun ov s1 ⟨x1, H1, I1, r1, q1⟩ => ?_) ha
  refine thn (hi pins s1 σ H1 _ I1 q1) fun iv s2 ⟨x2, H2, I2, r2, q2⟩ => ?_
  refine thn (hg pins s2 σ H2 x1 x2 ov iv _ I2 r1 r2 q2) fun old s3 ⟨x3, H3, I3, r3, q3⟩ => ?_
  refine thn (he pins s3 σ H3 _ I3 q3) fun v s4 ⟨x4, H4, I4, r4, q4⟩ => ?_
  refine thn (hp pins s4 σ H4 x3 x4 old v _ I4 r3 r4 q4) fun new s5 ⟨x5, H5, I5, r5, q5⟩ => ?_
  exact thn (hs pins s5 σ H5 x1 x2 x5 ov iv new _ I5 r1 r2 r5 q5) fun _ s6 ⟨H6, I6, q6⟩ => ⟨σ, H6, I6, q6⟩
/-- ints -/
def ipI (f : Int → Int → Int) : TIp := fun x y H Q => ∃ i j, x = .int i ∧ y = .int j ∧ Q (.int (f i j)) H
theorem ip_add : PIp X .Add (ipI fun i j => i + j) := by
  intro pins s σ H x y v u Q I r1 r2 h
  obtain ⟨i, j, e1, e2, q⟩ := h
  subst e1; subst e2
  obtain ⟨t, rfl⟩ := r1
  obtain ⟨t', rfl⟩ := r2
  exact iadd_int ⟨.int _, H, I.tok _, ⟨_, rfl⟩, q⟩
theorem ip_sub : PIp X .Sub (ipI fun i j => i - j) := by
  intro pins s σ H x y v u Q I r1 r2 h
  obtain ⟨i, j, e1, e2, q⟩ := h
  subst e1; subst e2
  obtain ⟨t, rfl⟩ := r1
  obtain ⟨t', rfl⟩ := r2
  exact isub_int ⟨.int _, H, I.tok _, ⟨_, rfl⟩, q⟩
end

/-! ### while -/
section
variable {X : Cx} {pos : Pos}
/-- the invariant W with its measure -/
def tWhile (c : TT) (tb : TS) : TS := fun D σ H => ∃ W : Nat → St → Hp → Prop, (∃ m, W m σ H) ∧ ∀ m σ H, W m σ H →
  c σ H fun b H1 => if b = true then ∃ N : St → Hp → Prop, (∀ σ' H', N σ' H' → ∃ m', m' < m ∧ W m' σ' H') ∧ tb { D with nx := N, ct := N, bk := D.nx } σ H1 else D.nx σ H1
theorem ps_while {c : Expr} {body : List Stmt} {tc : TT} {tb : TS} (hp : PassesOwn (model X.prog X.w) X.A X.env X.xe) (hc : PT X c tc) (hb : PSs X body tb) : PS X (.While c body [] pos) (tWhile tc tb) := by
  intro pins s σ H D I h
  obtain ⟨W, ⟨m0, w0⟩, turn⟩ := h
  refine wpAny_While (codeAny_whileLoop (fun n s' => ∃ σ' H', Inv X pins σ' H' s' ∧ W n σ' H') ?_ m0 ⟨σ, H, I, w0⟩)
  rintro n s1 ⟨σ1, H1, I1, w1⟩
  refine wpAny_passesOwn hp (thn (hc pins s1 σ1 H1 _ I1 (turn n σ1 H1 w1)) fun b s2 ⟨H2, I2, q2⟩ => ?_)
  cases b with
  | true =>
    obtain ⟨N, hN, q2⟩ := q2
    rw [if_pos rfl]
    refine wpAny_passesOwn hp (thn (hb pins s2 σ1 H2 _ I2 q2) fun f s3 q3 => ?_)
    cases f with
    | next =>
      obtain ⟨σ3, H3, I3, n3⟩ := q3
      obtain ⟨m', hm, w3⟩ := hN σ3 H3 n3
      exact ⟨m', hm, σ3, H3, I3, w3⟩
    | cont =>
      obtain ⟨σ3, H3, I3, n3⟩ := q3
      obtain ⟨m', hm, w3⟩ := hN σ3 H3 n3
      exact ⟨m', hm, σ3, H3, I3, w3⟩
    | brk => exact q3
    | ret v => exact q3
  | false =>
    rw [if_neg Bool.false_ne_true]
    exact wpAny_execs_nil ⟨σ1, H2, I2, q2⟩
end

/-! ### what a loop or a comprehension walks -/
/-- at turn i: it yields x (the heap may grow), or it stops -/
structure It where
  go : Nat → Hp → Prop
  yld : Nat → Hp → V → Hp → Prop
  stop : Nat → Hp → Prop
/-- the iterator's own objects may turn: they are not the frame's, not pinned, younger than the entry (or a comprehension's own) -/
def FpOk (X : Cx) (pins : List (Addr × Obj)) (H : Hp) (b : Addr) : Prop :=
  H b = none ∧ b ≠ X.env.locals ∧ b ∉ X.fs ∧ (b ∈ X.ex ∨ X.s₀.heap.objs.size ≤ b) ∧ (∀ x c, X.env.cells.lookup x = some c → c ≠ b) ∧ ∀ p ∈ X.pn ++ pins, p.1 ≠ b
theorem Inv.fpOk {X : Cx} {pins : List (Addr × Obj)} {σ : St} {H H' : Hp} {s : Shared} {b : Addr} (I : Inv X pins σ H s) (hb : s.heap.objs.size ≤ b) (hn : H' b = none) : FpOk X pins H' b := by
  refine ⟨hn, Nat.ne_of_gt (Nat.lt_of_lt_of_le I.lt hb), I.nofs hb, .inr (Nat.le_trans I.sz hb), fun x c e z => ?_, fun p hp z => ?_⟩
  · obtain ⟨v, q⟩ := I.cell x c e
    exact absurd (Nat.lt_of_lt_of_le q.lt (by rw [z]; exact hb)) (Nat.lt_irrefl _)
  · exact absurd (Nat.lt_of_lt_of_le (Heap.lt_size (I.pin p hp).1) (by rw [z]; exact hb)) (Nat.lt_irrefl _)
structure Turn (P : Program) (w : World) (K : PySem.W.Frag) (tg : Expr) (J : It) (fp : List Addr) (it : Addr) (tn : Nat → Heap → Prop) : Prop where
  mem : it ∈ fp
  obj : ∀ i h, tn i h → ∀ b ∈ fp, ∃ o, h.get? b = some o ∧ ∀ v, o.data ≠ .cell v
  keep : ∀ i h h', tn i h → (∀ b ∈ fp, ∀ o, h.get? b = some o → h'.get? b = some o) → tn i h'
  item : ∀ (X : Cx), X.prog = P → X.w = w → X.K = K → X.calm = true → ∀ (i : Nat) (pins : List (Addr × Obj)) (s : Shared) (σ : St) (H : Hp) (E : Value → Shared → Prop), Inv X pins σ H s → (∀ b ∈ fp, FpOk X pins H b) → tn i s.heap → J.go i H →
    wpAny (model P w) X.A (pyNext (.ref it)) (fun r s1 => ∃ u, r = some u ∧
      wpAny (model P w) X.A (letOwnedTupleGo tg (.ref it) u) (fun _ s2 => ∃ x H', Inv X pins σ H' s2 ∧ RelV x u ∧ J.yld i H x H' ∧ tn (i + 1) s2.heap ∧ ∀ b ∈ fp, H' b = none) E s1) E s
  done : ∀ (X : Cx), X.prog = P → X.w = w → X.K = K → X.calm = true → ∀ (i : Nat) (pins : List (Addr × Obj)) (s : Shared) (σ : St) (H : Hp) (E : Value → Shared → Prop), Inv X pins σ H s → (∀ b ∈ fp, FpOk X pins H b) → tn i s.heap → J.stop i H →
    wpAny (model P w) X.A (pyNext (.ref it)) (fun r s1 => r = none ∧ Inv X pins σ H s1) E s
  self : ∀ (A : Around) (i : Nat) (s : Shared) (Q : Value → Shared → Prop) (E : Value → Shared → Prop), tn i s.heap → Q (.ref it) s → wpAny (model P w) A (pyIter (.ref it)) Q E s
abbrev TI := St → Hp → (It → Hp → Prop) → Prop
/-- an iterator has come -/
def PIE (X : Cx) (pins : List (Addr × Obj)) (σ : St) (tg : Expr) (R : It → Hp → Prop) (itv : Value) (s2 : Shared) : Prop :=
  ∃ (it : Addr) (fp : List Addr) (tn : Nat → Heap → Prop) (J : It) (H' : Hp), itv = .ref it ∧ Inv X pins σ H' s2 ∧ Turn X.prog X.w X.K tg J fp it tn ∧ tn 0 s2.heap ∧ (∀ b ∈ fp, FpOk X pins H' b) ∧ R J H'
def PI (X : Cx) (tg iter : Expr) (wi : TI) : Prop :=
  ∀ (pins : List (Addr × Obj)) (s : Shared) (σ : St) (H : Hp) (R : It → Hp → Prop), Inv X pins σ H s → wi σ H R →
    wpAny (model X.prog X.w) X.A (eval iter X.env) (fun v s1 => wpAny (model X.prog X.w) X.A (pyIter v) (PIE X pins σ tg R) X.xe s1) X.xe s

/-- the step ahead of the store is nothing for an iterator that keeps no tuple -/
theorem go_of {M : Model} {A : Around} {E : Value → Shared → Prop} {s : Shared} {tg : Expr} {it : Addr} {u : Value} {o : Obj} {n : String} {vs : Array Value} {Q : Unit → Shared → Prop} (ho : s.heap.get? it = some o) (hc : o.cls = .type n) (hd : o.data = .fields vs)
    (hn : ["enumerate", "zip", "dict_itemiterator", "dict_reverseitemiterator", "odict_iterator", "itertools.zip_longest", "itertools.pairwise"].contains n = false) (hQ : Q () s) : wpAny M A (letOwnedTupleGo tg (.ref it) u) Q E s := by
  unfold letOwnedTupleGo
  cases tg <;> first
    | exact wpAny_pure hQ
    | (cases u <;> first
        | exact wpAny_pure hQ
        | (refine wpAny_bind (wpAny_load ho ?_)
           rw [hc, hd]
           show wpAny M A (if (["enumerate", "zip", "dict_itemiterator", "dict_reverseitemiterator", "odict_iterator", "itertools.zip_longest", "itertools.pairwise"].contains n && vs[0]? == some (rawInt _)) = true then _ else _) Q E s
           rw [if_neg (by intro h; rw [hn, Bool.false_and] at h; cases h)]
           exact wpAny_pure hQ))

/-- the list at a, as it stands at each turn (a loop may append to it) -/
def Itl (K : PySem.W.Frag) (a : Addr) : It :=
  ⟨fun i H => ∃ xs x, SqL K H a xs ∧ xs[i]? = some x, fun i H x H' => H' = H ∧ ∀ xs, SqL K H a xs → xs[i]? = some x, fun i H => ∃ xs, SqL K H a xs ∧ xs.length ≤ i⟩
def Itt (K : PySem.W.Frag) (a : Addr) : It :=
  ⟨fun i H => ∃ xs x, SqT K H a xs ∧ xs[i]? = some x, fun i H x H' => H' = H ∧ ∀ xs, SqT K H a xs → xs[i]? = some x, fun i H => ∃ xs, SqT K H a xs ∧ xs.length ≤ i⟩
/-- lo, lo + 1, .. (n of them) -/
def Itr (lo : Int) (n : Nat) : It := ⟨fun i _ => i < n, fun i H x H' => H' = H ∧ x = .int (lo + i), fun i _ => n ≤ i⟩
theorem turn_list {P : Program} {w : World} {K : PySem.W.Frag} {tg : Expr} (a it : Addr) : Turn P w K tg (Itl K a) [it] it (fun i h => h.IsListIter it a i) where
  mem := by simp
  obj := fun i h st b hb => by
    have e : b = it := by simpa using hb
    subst e
    obtain ⟨o, e, c, d⟩ := st
    exact ⟨o, e, fun v z => by rw [d] at z; cases z⟩
  keep := fun i h h' st k => st.at fun o e => k it (by simp) o e
  item := by
    intro X hP hw hK hc i pins s σ H E I hf st hg
    subst hP hw hK
    obtain ⟨xs, x, hq, hx⟩ := hg
    obtain ⟨its, rv, p, hz⟩ := I.list hq
    obtain ⟨u, hu, ru⟩ := rv.get hx
    obtain ⟨f0, f1, f2, f3, f4, f5⟩ := hf it (by simp)
    refine wpAny_pyNext_list_item st p.isList (x := u) (by simpa using hu) fun h' st' sb => ?_
    have I1 : Inv X pins σ H { s with heap := h' } := I.turned (t' := s.toks) (fun b o hb e => (sb.2 b hb).trans e) f0 f1 f3 f4 f5
    obtain ⟨o, e, c, d⟩ := id st'
    exact ⟨u, rfl, go_of (s := { s with heap := h' }) e c d (by decide) ⟨x, H, I1, ru, ⟨rfl, fun ys hy => by rw [I.list_inj hy hq]; exact hx⟩, st', fun b hb => (hf b hb).1⟩⟩
  done := by
    intro X hP hw hK hc i pins s σ H E I hf st hg
    subst hP hw hK
    obtain ⟨xs, hq, hx⟩ := hg
    obtain ⟨its, rv, p, hz⟩ := I.list hq
    obtain ⟨f0, f1, f2, f3, f4, f5⟩ := hf it (by simp)
    have hl := rv.length
    exact wpAny_pyNext_list_end (I.ok.hd hc) st p.isList (by simp; omega) fun h' eb => ⟨rfl, I.turned (t' := s.toks) (fun b o hb e => eb b o hb e) f0 f1 f3 f4 f5⟩
  self := fun _ _ _ _ _ st h => wpAny_pyIter_listiter st h
theorem turn_tuple {P : Program} {w : World} {K : PySem.W.Frag} {tg : Expr} (a it : Addr) : Turn P w K tg (Itt K a) [it] it (fun i h => h.IsTupleIter it a i) where
  mem := by simp
  obj := fun i h st b hb => by
    have e : b = it := by simpa using hb
    subst e
    obtain ⟨o, e, c, d⟩ := st
    exact ⟨o, e, fun v z => by rw [d] at z; cases z⟩
  keep := fun i h h' st k => st.at fun o e => k it (by simp) o e
  item := by
    intro X hP hw hK hc i pins s σ H E I hf st hg
    subst hP hw hK
    obtain ⟨xs, x, hq, hx⟩ := hg
    obtain ⟨its, rv, p, hz⟩ := I.tuple hq
    obtain ⟨u, hu, ru⟩ := rv.get hx
    obtain ⟨f0, f1, f2, f3, f4, f5⟩ := hf it (by simp)
    refine wpAny_pyNext_tuple_item st (show s.heap.IsTuple a its.toArray from p) (x := u) (by simpa using hu) fun h' st' sb => ?_
    have I1 : Inv X pins σ H { s with heap := h' } := I.turned (t' := s.toks) (fun b o hb e => (sb.2 b hb).trans e) f0 f1 f3 f4 f5
    obtain ⟨o, e, c, d⟩ := id st'
    exact ⟨u, rfl, go_of (s := { s with heap := h' }) e c d (by decide) ⟨x, H, I1, ru, ⟨rfl, fun ys hy => by rw [I.tuple_inj hy hq]; exact hx⟩, st', fun b hb => (hf b hb).1⟩⟩
  done := by
    intro X hP hw hK hc i pins s σ H E I hf st hg
    subst hP hw hK
    obtain ⟨xs, hq, hx⟩ := hg
    obtain ⟨its, rv, p, hz⟩ := I.tuple hq
    obtain ⟨f0, f1, f2, f3, f4, f5⟩ := hf it (by simp)
    have hl := rv.length
    exact wpAny_pyNext_tuple_end (I.ok.hd hc) st (show s.heap.IsTuple a its.toArray from p) (by simp; omega) fun h' eb => ⟨rfl, I.turned (t' := s.toks) (fun b o hb e => eb b o hb e) f0 f1 f3 f4 f5⟩
  self := fun _ _ _ _ _ st h => wpAny_pyIter_tupleiter st h
theorem turn_range {P : Program} {w : World} {K : PySem.W.Frag} {tg : Expr} (it : Addr) (lo : Int) (n : Nat) : Turn P w K tg (Itr lo n) [it] it (fun i h => IsRangeIter h it (lo + (i : Nat) * 1) ((n : Int) - (i : Nat)) 1) where
  mem := by simp
  obj := fun i h st b hb => by
    have e : b = it := by simpa using hb
    subst e
    exact ⟨_, st, fun v z => by
      have z' : Data.fields _ = Data.cell v := z
      cases z'⟩
  keep := fun i h h' st k => k it (by simp) _ st
  item := by
    intro X hP hw hK hc i pins s σ H E I hf st hg
    subst hP hw hK
    obtain ⟨f0, f1, f2, f3, f4, f5⟩ := hf it (by simp)
    have W := Walks.range (prog := X.prog) (w := X.w) (I.ok.hd hc) it lo 1 n
    refine W.item i s _ _ hg st fun v h' tk hv st' kk => ?_
    obtain ⟨t, rfl⟩ := hv
    have I1 : Inv X pins σ H { s with heap := h', toks := tk } := I.turned (fun b o hb e => kk b o (by simpa using hb) e) f0 f1 f3 f4 f5
    refine ⟨_, rfl, go_of (s := { s with heap := h', toks := tk }) (n := "range_iterator") st' rfl rfl (by decide) ⟨.int (lo + i), H, I1, ⟨t, ?_⟩, ⟨rfl, rfl⟩, st', fun b hb => (hf b hb).1⟩⟩
    rw [Int.mul_one]
  done := by
    intro X hP hw hK hc i pins s σ H E I hf st hg
    subst hP hw hK
    obtain ⟨f0, f1, f2, f3, f4, f5⟩ := hf it (by simp)
    exact wpAny_pyNext_range_end (I.ok.hd hc) st (by have : n ≤ i := hg; omega) fun h' eb => ⟨rfl, I.turned (t' := s.toks) (fun b o hb e => eb b o hb e) f0 f1 f3 f4 f5⟩
  self := fun _ _ _ _ _ st h => wpAny_pyIter_rangeiter st h
end L2

namespace L2
open PySem PySem.Spec PyProof.Rows
section
variable {X : Cx} {tg : Expr}
def iList (K : PySem.W.Frag) (tl : TE) : TI := fun σ H R => tl σ H fun x H1 => ∃ a, x = .ref a ∧ (∃ xs, SqL K H1 a xs) ∧ R (Itl K a) H1
def iTup (K : PySem.W.Frag) (tl : TE) : TI := fun σ H R => tl σ H fun x H1 => ∃ a, x = .ref a ∧ (∃ xs, SqT K H1 a xs) ∧ R (Itt K a) H1
theorem pi_list {l : Expr} {tl : TE} (hl : PE X l tl) : PI X tg l (iList X.K tl) := by
  intro pins s σ H R I h
  refine thn (hl pins s σ H _ I h) fun v s1 ⟨x, H1, I1, r1, q1⟩ => ?_
  obtain ⟨a, e, ⟨xs, hq⟩, q⟩ := q1
  subst e
  cases r1
  obtain ⟨its, rv, p, hz⟩ := I1.list hq
  refine wpAny_pyIter_list p.isList ?_
  refine ⟨s1.heap.objs.size, [s1.heap.objs.size], _, _, H1, rfl, I1.kept (t' := s1.toks) fun b o e => Heap.get?_push_of_some _ e, turn_list a _, ⟨_, Heap.get?_push_size _ rfl, rfl, rfl⟩, fun b hb => ?_, q⟩
  have e : b = s1.heap.objs.size := by simpa using hb
  subst e
  exact I1.fpOk (Nat.le_refl _) (I1.hok.fresh (Nat.le_refl _))
theorem pi_tup {l : Expr} {tl : TE} (hl : PE X l tl) : PI X tg l (iTup X.K tl) := by
  intro pins s σ H R I h
  refine thn (hl pins s σ H _ I h) fun v s1 ⟨x, H1, I1, r1, q1⟩ => ?_
  obtain ⟨a, e, ⟨xs, hq⟩, q⟩ := q1
  subst e
  cases r1
  obtain ⟨its, rv, p, hz⟩ := I1.tuple hq
  refine wpAny_pyIter_tuple (show s1.heap.IsTuple a its.toArray from p) ?_
  refine ⟨s1.heap.objs.size, [s1.heap.objs.size], _, _, H1, rfl, I1.kept (t' := s1.toks) fun b o e => Heap.get?_push_of_some _ e, turn_tuple a _, ⟨_, Heap.get?_push_size _ rfl, rfl, rfl⟩, fun b hb => ?_, q⟩
  have e : b = s1.heap.objs.size := by simpa using hb
  subst e
  exact I1.fpOk (Nat.le_refl _) (I1.hok.fresh (Nat.le_refl _))
/-- a range object just made, walked -/
theorem range_it {pins : List (Addr × Obj)} {σ : St} {H : Hp} {s : Shared} {R : It → Hp → Prop} {E : Value → Shared → Prop} {lo hi : Int} {t u v : Tok} {tk : Nat} (I : Inv X pins σ H s) (h1 : -(2 ^ 62) ≤ lo) (h2 : lo < 2 ^ 62) (h3 : -(2 ^ 62) ≤ hi) (h4 : hi < 2 ^ 62)
    (q : R (Itr lo (hi - lo).toNat) H) : wpAny (model X.prog X.w) X.A (pyIter (.ref s.heap.objs.size)) (PIE X pins σ tg R) E { s with heap := s.heap.push { cls := .type "range", data := .fields #[.int lo t, .int hi u, .int 1 v] }, toks := tk } := by
  refine wpAny_pyIter_range (IsRange.new ..) (small_one h1 h2 h3 h4) ?_
  have I1 : Inv X pins σ H { s with heap := s.heap.push { cls := .type "range", data := .fields #[.int lo t, .int hi u, .int 1 v] }, toks := tk } := I.kept fun b o e => Heap.get?_push_of_some _ e
  refine ⟨(s.heap.push { cls := .type "range", data := .fields #[.int lo t, .int hi u, .int 1 v] }).objs.size, [(s.heap.push { cls := .type "range", data := .fields #[.int lo t, .int hi u, .int 1 v] }).objs.size], _, _, H, rfl,
    I1.kept (t' := tk) fun b o e => Heap.get?_push_of_some _ e, turn_range _ lo (hi - lo).toNat, ?_, fun b hb => ?_, q⟩
  · have e1 : lo + ((0 : Nat) : Int) * 1 = lo := by simp
    have e2 : (((hi - lo).toNat : Nat) : Int) - ((0 : Nat) : Int) = Builtin.Range.rangeSize lo hi 1 := by rw [rangeSize_one]; split <;> omega
    show IsRangeIter _ _ (lo + ((0 : Nat) : Int) * 1) ((((hi - lo).toNat : Nat) : Int) - ((0 : Nat) : Int)) 1
    rw [e1, e2]
    exact Heap.get?_push_size _ rfl
  · have e : b = (s.heap.push { cls := .type "range", data := .fields #[.int lo t, .int hi u, .int 1 v] }).objs.size := by simpa using hb
    subst e
    exact I1.fpOk (Nat.le_refl _) (I1.hok.fresh (Nat.le_refl _))
def iRng1 (ta : TA) : TI := fun σ H R => ta σ H fun vs H1 => ∃ j : Int, vs = [.int j] ∧ -(2 ^ 62) ≤ j ∧ j < 2 ^ 62 ∧ R (Itr 0 j.toNat) H1
def iRng2 (ta : TA) : TI := fun σ H R => ta σ H fun vs H1 => ∃ i j : Int, vs = [.int i, .int j] ∧ (-(2 ^ 62) ≤ i ∧ i < 2 ^ 62 ∧ -(2 ^ 62) ≤ j ∧ j < 2 ^ 62) ∧ R (Itr i (j - i).toNat) H1
theorem pi_range1 {a : Expr} {ta : TA} {p pos : Pos} (hg : Gl X "range") (hm : X.mg "range" = none) (ha : PA X [a] ta) (hs : starEach [a] X.env = [(false, eval a X.env)] := by rfl) : PI X tg (.Call (.Name "range" p) [a] [] pos) (iRng1 ta) := by
  intro pins s σ H R I h
  refine Call_ (ld_blt I hg hm boot_range (PyProof.Rows.callWith_type1 (thn (ha pos pins s σ H _ I h) fun us s1 ⟨vs, H1, I1, r1, q1⟩ => ?_) hs rfl))
  obtain ⟨j, e, q1, q2, q⟩ := q1
  subst e
  cases r1 with
  | cons r rr =>
    cases rr
    obtain ⟨t, rfl⟩ := r
    exact call_range_1 (range_it I1 (by omega) (by omega) q1 q2 (by simpa using q))
theorem pi_range2 {a b : Expr} {ta : TA} {p pos : Pos} (hg : Gl X "range") (hm : X.mg "range" = none) (ha : PA X [a, b] ta) (hs : starEach [a, b] X.env = [(false, eval a X.env), (false, eval b X.env)] := by rfl) (hs2 : starEach [b] X.env = [(false, eval b X.env)] := by rfl) :
    PI X tg (.Call (.Name "range" p) [a, b] [] pos) (iRng2 ta) := by
  intro pins s σ H R I h
  refine Call_ (ld_blt I hg hm boot_range (PyProof.Rows.callWith_type1 (thn (ha pos pins s σ H _ I h) fun us s1 ⟨vs, H1, I1, r1, q1⟩ => ?_) (by rw [hs, hs2]) (by rw [hs2]; rfl)))
  obtain ⟨i, j, e, ⟨q1, q2, q3, q4⟩, q⟩ := q1
  subst e
  cases r1 with
  | cons r rr =>
    cases rr with
    | cons r' rr =>
      cases rr
      obtain ⟨t, rfl⟩ := r
      obtain ⟨t', rfl⟩ := r'
      exact call_range_2 (range_it I1 q1 q2 q3 q4 q)

/-! ### for -/
/-- W: the invariant by the turn and a measure; N: what the body is to reach -/
def tFor (wi : TI) (g : TG) (tb : TS) : TS := fun D σ H => wi σ H fun J H1 => ∃ W : Nat → Nat → St → Hp → Prop, (∃ m, W 0 m σ H1) ∧ ∀ i m σ H, W i m σ H →
  (J.stop i H ∧ D.nx σ H) ∨ (J.go i H ∧ ∃ N : St → Hp → Prop, (∀ σ' H', N σ' H' → ∃ m', m' < m ∧ W (i + 1) m' σ' H') ∧ ∀ x H', J.yld i H x H' → g x σ H' fun σ2 H2 => tb { D with nx := N, ct := N, bk := D.nx } σ2 H2)
/-- the records at fp as they stand -/
def pinsAt (fp : List Addr) (h : Heap) : List (Addr × Obj) := fp.filterMap fun b => (h.get? b).map fun o => (b, o)
theorem mem_pinsAt {fp : List Addr} {h : Heap} {b : Addr} {o : Obj} (hb : b ∈ fp) (e : h.get? b = some o) : (b, o) ∈ pinsAt fp h := List.mem_filterMap.mpr ⟨b, hb, by rw [e]; rfl⟩
theorem of_pinsAt {fp : List Addr} {h : Heap} {p : Addr × Obj} (hp : p ∈ pinsAt fp h) : p.1 ∈ fp ∧ h.get? p.1 = some p.2 := by
  obtain ⟨b, hb, e⟩ := List.mem_filterMap.mp hp
  cases q : h.get? b with
  | none => rw [q] at e; cases e
  | some o =>
    rw [q] at e
    have e' : (b, o) = p := Option.some.inj e
    subst e'
    exact ⟨hb, q⟩
theorem Inv.pinned {pins : List (Addr × Obj)} {σ : St} {H : Hp} {s : Shared} {fp : List Addr} (I : Inv X pins σ H s) (hf : ∀ b ∈ fp, FpOk X pins H b) (ho : ∀ b ∈ fp, ∃ o, s.heap.get? b = some o ∧ ∀ v, o.data ≠ .cell v) : Inv X (pins ++ pinsAt fp s.heap) σ H s :=
  I.pins_of fun p hp => (List.mem_append.mp hp).elim (fun z => I.pin p (List.mem_append_right _ z)) fun z => by
    obtain ⟨hb, e⟩ := of_pinsAt z
    obtain ⟨f0, f1, f2, _⟩ := hf p.1 hb
    obtain ⟨o, e', d⟩ := ho p.1 hb
    rw [e] at e'; cases e'
    exact ⟨e, f0, f1, f2, d⟩
theorem Inv.unpinned {pins pl : List (Addr × Obj)} {σ : St} {H : Hp} {s : Shared} (I : Inv X (pins ++ pl) σ H s) : Inv X pins σ H s := I.pins_of fun p hp => I.pin p (List.mem_append_right _ (List.mem_append_left _ hp))
theorem ps_for {iter : Expr} {body : List Stmt} {wi : TI} {g : TG} {tb : TS} {pos : Pos} (hp : PassesOwn (model X.prog X.w) X.A X.env X.xe) (hc : X.calm = true) (hi : PI X tg iter wi) (hg : PG X tg g) (hb : PSs X body tb)
    (hs : ∀ x, foldedSetIterable iter X.env x = pure x := by intro _; rfl) : PS X (.For tg iter body [] pos) (tFor wi g tb) := by
  intro pins s σ H D I h
  refine wpAny_For (thn (hi pins s σ H _ I h) fun v s1 h1 => thn h1 fun itv s2 h2 => ?_) hs
  obtain ⟨it, fp, tn, J, H2, e, I2, T, st2, f2, W, ⟨m0, w0⟩, turn⟩ := h2
  subst e
  -- what stays true of the iterator's objects through the loop
  have stat : ∀ {H' : Hp}, (∀ b ∈ fp, H' b = none) → ∀ b ∈ fp, FpOk X pins H' b := fun hn b hb => ⟨hn b hb, (f2 b hb).2⟩
  refine codeAny_forLoop_any (fun n s' => ∃ i σ' H', Inv X pins σ' H' s' ∧ tn i s'.heap ∧ (∀ b ∈ fp, H' b = none) ∧ W i n σ' H') ?_ m0 ⟨0, σ, H2, I2, st2, fun b hb => (f2 b hb).1, w0⟩
  rintro n s3 ⟨i, σ3, H3, I3, st3, fr3, w3⟩
  rcases turn i n σ3 H3 w3 with ⟨stop, qn⟩ | ⟨go, N, hN, step⟩
  · refine wpAny_passesOwn hp (thn (T.done X rfl rfl rfl hc i pins s3 σ3 H3 X.xe I3 (stat fr3) st3 stop) fun r s4 ⟨hr, I4⟩ => ?_)
    subst hr
    exact wpAny_execs_nil ⟨σ3, H3, I4, qn⟩
  · refine wpAny_passesOwn hp (thn (T.item X rfl rfl rfl hc i pins s3 σ3 H3 X.xe I3 (stat fr3) st3 go) fun r s4 ⟨u, hr, h4⟩ => ?_)
    subst hr
    refine wpAny_passesOwn hp (thn h4 fun _ s5 ⟨x, H5, I5, r5, y5, st5, fr5⟩ => ?_)
    have I5' := I5.pinned (stat fr5) (T.obj _ _ st5)
    refine wpAny_passesOwn hp (thn (hg _ s5 σ3 H5 x u _ I5' r5 (step x H5 y5)) fun _ s6 ⟨σ6, H6, I6, q6⟩ => ?_)
    refine wpAny_passesOwn hp (thn (hb _ s6 σ6 H6 _ I6 q6) fun f s7 q7 => ?_)
    have again : ∀ {σ7 : St} {H7 : Hp}, Inv X (pins ++ pinsAt fp s5.heap) σ7 H7 s7 → N σ7 H7 → ∃ m, m < n ∧ ∃ i σ' H', Inv X pins σ' H' s7 ∧ tn i s7.heap ∧ (∀ b ∈ fp, H' b = none) ∧ W i m σ' H' := fun {σ7 H7} I7 n7 => by
      obtain ⟨m', hm, w7⟩ := hN σ7 H7 n7
      refine ⟨m', hm, i + 1, σ7, H7, I7.unpinned, T.keep _ _ _ st5 fun b hb o e => (I7.pin (b, o) (List.mem_append_right _ (List.mem_append_right _ (mem_pinsAt hb e)))).1, fun b hb => ?_, w7⟩
      obtain ⟨o, e, d⟩ := T.obj _ _ st5 b hb
      exact (I7.pin (b, o) (List.mem_append_right _ (List.mem_append_right _ (mem_pinsAt hb e)))).2.1
    cases f with
    | next => obtain ⟨σ7, H7, I7, n7⟩ := q7; exact again I7 n7
    | cont => obtain ⟨σ7, H7, I7, n7⟩ := q7; exact again I7 n7
    | brk => obtain ⟨σ7, H7, I7, q7⟩ := q7; exact ⟨σ7, H7, I7.unpinned, q7⟩
    | ret v => obtain ⟨x7, σ7, H7, I7, r7, q7⟩ := q7; exact ⟨x7, σ7, H7, I7.unpinned, r7, q7⟩
end

/-! ### the forms one uses -/
/-- over a list that the body leaves as it is -/
theorem for_list {K : PySem.W.Frag} {a : Addr} {xs : List V} {g : TG} {tb : TS} {D : Ends} {σ : St} {H : Hp} (Pv : Nat → St → Hp → Prop) (h0 : Pv 0 σ H) (hl : ∀ i σ H, i ≤ xs.length → Pv i σ H → SqL K H a xs)
    (hs : ∀ i x σ H, xs[i]? = some x → Pv i σ H → g x σ H fun σ2 H2 => tb { D with nx := Pv (i + 1), ct := Pv (i + 1), bk := D.nx } σ2 H2) (hd : ∀ σ H, Pv xs.length σ H → D.nx σ H) :
    ∃ W : Nat → Nat → St → Hp → Prop, (∃ m, W 0 m σ H) ∧ ∀ i m σ H, W i m σ H →
      ((Itl K a).stop i H ∧ D.nx σ H) ∨ ((Itl K a).go i H ∧ ∃ N : St → Hp → Prop, (∀ σ' H', N σ' H' → ∃ m', m' < m ∧ W (i + 1) m' σ' H') ∧ ∀ x H', (Itl K a).yld i H x H' → g x σ H' fun σ2 H2 => tb { D with nx := N, ct := N, bk := D.nx } σ2 H2) := by
  refine ⟨fun i m σ H => m = xs.length - i ∧ i ≤ xs.length ∧ Pv i σ H, ⟨xs.length, by simp, Nat.zero_le _, h0⟩, ?_⟩
  rintro i m σ H ⟨rfl, hi, p⟩
  have q := hl i σ H hi p
  by_cases hlt : i < xs.length
  · refine .inr ⟨⟨xs, xs[i], q, by simp [hlt]⟩, Pv (i + 1), fun σ' H' p' => ⟨xs.length - (i + 1), by omega, rfl, hlt, p'⟩, fun x H' y => ?_⟩
    obtain ⟨e, y⟩ := y
    subst e
    exact hs i x σ _ (y xs q) p
  · have e : i = xs.length := by omega
    subst e
    exact .inl ⟨⟨xs, q, Nat.le_refl _⟩, hd σ H p⟩
theorem for_tup {K : PySem.W.Frag} {a : Addr} {xs : List V} {g : TG} {tb : TS} {D : Ends} {σ : St} {H : Hp} (Pv : Nat → St → Hp → Prop) (h0 : Pv 0 σ H) (hl : ∀ i σ H, i ≤ xs.length → Pv i σ H → SqT K H a xs)
    (hs : ∀ i x σ H, xs[i]? = some x → Pv i σ H → g x σ H fun σ2 H2 => tb { D with nx := Pv (i + 1), ct := Pv (i + 1), bk := D.nx } σ2 H2) (hd : ∀ σ H, Pv xs.length σ H → D.nx σ H) :
    ∃ W : Nat → Nat → St → Hp → Prop, (∃ m, W 0 m σ H) ∧ ∀ i m σ H, W i m σ H →
      ((Itt K a).stop i H ∧ D.nx σ H) ∨ ((Itt K a).go i H ∧ ∃ N : St → Hp → Prop, (∀ σ' H', N σ' H' → ∃ m', m' < m ∧ W (i + 1) m' σ' H') ∧ ∀ x H', (Itt K a).yld i H x H' → g x σ H' fun σ2 H2 => tb { D with nx := N, ct := N, bk := D.nx } σ2 H2) := by
  refine ⟨fun i m σ H => m = xs.length - i ∧ i ≤ xs.length ∧ Pv i σ H, ⟨xs.length, by simp, Nat.zero_le _, h0⟩, ?_⟩
  rintro i m σ H ⟨rfl, hi, p⟩
  have q := hl i σ H hi p
  by_cases hlt : i < xs.length
  · refine .inr ⟨⟨xs, xs[i], q, by simp [hlt]⟩, Pv (i + 1), fun σ' H' p' => ⟨xs.length - (i + 1), by omega, rfl, hlt, p'⟩, fun x H' y => ?_⟩
    obtain ⟨e, y⟩ := y
    subst e
    exact hs i x σ _ (y xs q) p
  · have e : i = xs.length := by omega
    subst e
    exact .inl ⟨⟨xs, q, Nat.le_refl _⟩, hd σ H p⟩
theorem for_range {lo : Int} {n : Nat} {g : TG} {tb : TS} {D : Ends} {σ : St} {H : Hp} (Pv : Nat → St → Hp → Prop) (h0 : Pv 0 σ H)
    (hs : ∀ i σ H, i < n → Pv i σ H → g (.int (lo + i)) σ H fun σ2 H2 => tb { D with nx := Pv (i + 1), ct := Pv (i + 1), bk := D.nx } σ2 H2) (hd : ∀ σ H, Pv n σ H → D.nx σ H) :
    ∃ W : Nat → Nat → St → Hp → Prop, (∃ m, W 0 m σ H) ∧ ∀ i m σ H, W i m σ H →
      ((Itr lo n).stop i H ∧ D.nx σ H) ∨ ((Itr lo n).go i H ∧ ∃ N : St → Hp → Prop, (∀ σ' H', N σ' H' → ∃ m', m' < m ∧ W (i + 1) m' σ' H') ∧ ∀ x H', (Itr lo n).yld i H x H' → g x σ H' fun σ2 H2 => tb { D with nx := N, ct := N, bk := D.nx } σ2 H2) := by
  refine ⟨fun i m σ H => m = n - i ∧ i ≤ n ∧ Pv i σ H, ⟨n, by simp, Nat.zero_le _, h0⟩, ?_⟩
  rintro i m σ H ⟨rfl, hi, p⟩
  by_cases hlt : i < n
  · refine .inr ⟨hlt, Pv (i + 1), fun σ' H' p' => ⟨n - (i + 1), by omega, rfl, hlt, p'⟩, fun x H' y => ?_⟩
    obtain ⟨e, y⟩ := y
    subst e y
    exact hs i σ _ hlt p
  · have e : i = n := by omega
    subst e
    exact .inl ⟨Nat.le_refl _, hd σ H p⟩
/-- while, by a word and a measure of the state -/
theorem while_by {c : TT} {tb : TS} {D : Ends} {σ : St} {H : Hp} (Pv : St → Hp → Prop) (μ : St → Hp → Nat) (h0 : Pv σ H)
    (hs : ∀ σ H, Pv σ H → c σ H fun b H1 => if b = true then tb { D with nx := fun σ' H' => Pv σ' H' ∧ μ σ' H' < μ σ H, ct := fun σ' H' => Pv σ' H' ∧ μ σ' H' < μ σ H, bk := D.nx } σ H1 else D.nx σ H1)
    (mono : ∀ σ H Q Q', (∀ b H1, Q b H1 → Q' b H1) → c σ H Q → c σ H Q') : tWhile c tb D σ H := by
  refine ⟨fun m σ H => m = μ σ H ∧ Pv σ H, ⟨_, rfl, h0⟩, ?_⟩
  rintro m σ H ⟨rfl, p⟩
  refine mono σ H _ _ (fun b H1 q => ?_) (hs σ H p)
  cases b with
  | true => exact ⟨_, fun σ' H' ⟨p', l⟩ => ⟨_, l, rfl, p'⟩, q⟩
  | false => exact q
end L2

namespace L2
open PySem PySem.Spec PyProof.Rows

abbrev R2 := V → V → Hp → VK → Prop
/-- a two-place operation on values: f is binaryOp op, inplaceOp op or compareOp op -/
def OpR (X : Cx) (f : Value → Value → Sem Value) (r : R2) : Prop :=
  ∀ (pins : List (Addr × Obj)) (s : Shared) (σ : St) (H : Hp) (x y : V) (v u : Value) (Q : VK), Inv X pins σ H s → RelV x v → RelV y u → r x y H Q →
    wpAny (model X.prog X.w) X.A (f v u) (EP X pins σ Q) X.xe s
/-- a one-place operation -/
def UnR (X : Cx) (f : Value → Sem Value) (r : V → Hp → VK → Prop) : Prop :=
  ∀ (pins : List (Addr × Obj)) (s : Shared) (σ : St) (H : Hp) (x : V) (v : Value) (Q : VK), Inv X pins σ H s → RelV x v → r x H Q →
    wpAny (model X.prog X.w) X.A (f v) (EP X pins σ Q) X.xe s
/-- a call of a value that is known (a builtin, a type) with values -/
def CallR (X : Cx) (f : Value) (r : List V → Hp → VK → Prop) : Prop :=
  ∀ (pins : List (Addr × Obj)) (s : Shared) (σ : St) (H : Hp) (xs : List V) (us : List Value) (Q : VK), Inv X pins σ H s → Vals xs us → r xs H Q →
    wpAny (model X.prog X.w) X.A (call f us) (EP X pins σ Q) X.xe s
/-- a value's truth -/
def TruR (X : Cx) (r : V → Hp → (Bool → Hp → Prop) → Prop) : Prop :=
  ∀ (pins : List (Addr × Obj)) (s : Shared) (σ : St) (H : Hp) (x : V) (v : Value) (Q : Bool → Hp → Prop), Inv X pins σ H s → RelV x v → r x H Q →
    wpAny (model X.prog X.w) X.A (truthy v) (TP X pins σ Q) X.xe s

def tOp (r : R2) (ta tb : TE) : TE := fun σ H Q => ta σ H fun x H1 => tb σ H1 fun y H2 => r x y H2 Q
def tUn (r : V → Hp → VK → Prop) (ta : TE) : TE := fun σ H Q => ta σ H fun x H1 => r x H1 Q
/-- ints in, under C, and a value out -/
def rI (C : Int → Int → Prop) (g : Int → Int → V) : R2 := fun x y H Q => ∃ i j, x = .int i ∧ y = .int j ∧ C i j ∧ Q (g i j) H
def rI0 (g : Int → Int → V) : R2 := fun x y H Q => ∃ i j, x = .int i ∧ y = .int j ∧ Q (g i j) H
def rU (g : Int → V) : V → Hp → VK → Prop := fun x H Q => ∃ i, x = .int i ∧ Q (g i) H

section
variable {X : Cx} {a b c : Expr} {ta tb tc : TE} {pos : Pos}

theorem binT (ha : PE X a ta) (hb : PE X b tb) {pins : List (Addr × Obj)} {s : Shared} {σ : St} {H : Hp} {R : V → V → Hp → Prop} (I : Inv X pins σ H s)
    (h : ta σ H fun x H1 => tb σ H1 fun y H2 => R x y H2) {Q : Value → Shared → Prop} {f : Value → Value → Sem Value}
    (hf : ∀ v u s2 x y H2, Inv X pins σ H2 s2 → RelV x v → RelV y u → R x y H2 → wpAny (model X.prog X.w) X.A (f v u) Q X.xe s2) :
    wpAny (model X.prog X.w) X.A (eval a X.env) (fun v s₁ => wpAny (model X.prog X.w) X.A (eval b X.env) (fun u s₂ => wpAny (model X.prog X.w) X.A (f v u) Q X.xe s₂) X.xe s₁) X.xe s := by
  refine thn (ha pins s σ H _ I h) fun v s1 ⟨x, H1, I1, r1, q1⟩ => ?_
  refine thn (hb pins s1 σ H1 _ I1 q1) fun u s2 ⟨y, H2, I2, r2, q2⟩ => ?_
  exact hf v u s2 x y H2 I2 r1 r2 q2

theorem pe_op {op : Operator} {r : R2} (ho : OpR X (binaryOp op) r) (ha : PE X a ta) (hb : PE X b tb) : PE X (.BinOp a op b pos) (tOp r ta tb) := by
  intro pins s σ H Q I h
  exact wpAny_BinOp (binT ha hb I h fun v u s2 x y H2 I2 rx ry q => ho pins s2 σ H2 x y v u Q I2 rx ry q)
theorem pe_un {op : UnaryOp} {r : V → Hp → VK → Prop} (ho : UnR X (unaryOp op) r) (ha : PE X a ta) : PE X (.UnaryOp op a pos) (tUn r ta) := by
  intro pins s σ H Q I h
  exact UnaryOp_ (thn (ha pins s σ H _ I h) fun v s1 ⟨x, H1, I1, r1, q1⟩ => ho pins s1 σ H1 x v Q I1 r1 q1)
/-- a op= e at a name: the name's slot i -/
theorem augR {op : Operator} {r : R2} (ho : OpR X (inplaceOp op) r) {pins : List (Addr × Obj)} {s : Shared} {σ : St} {H : Hp} {x y : V} {v u : Value} {Q : VK} (I : Inv X pins σ H s)
    (rx : RelV x v) (ry : RelV y u) (q : r x y H Q) : wpAny (model X.prog X.w) X.A (inplaceOp op v u) (EP X pins σ Q) X.xe s := ho pins s σ H x y v u Q I rx ry q

/-! ### ints -/
theorem opI {f : Value → Value → Sem Value} {C : Int → Int → Prop} {g : Int → Int → Int}
    (rule : ∀ (i j : Int) (t u : Tok) (s : Shared) (Q : Value → Shared → Prop) (E : Value → Shared → Prop), C i j → Q (.int (g i j) s.toks) { s with toks := s.toks + 1 } → wpAny (model X.prog X.w) X.A (f (.int i t) (.int j u)) Q E s) :
    OpR X f (rI C fun i j => .int (g i j)) := by
  intro pins s σ H x y v u Q I rx ry h
  obtain ⟨i, j, rfl, rfl, hc, q⟩ := h
  obtain ⟨t, rfl⟩ := rx
  obtain ⟨t', rfl⟩ := ry
  exact rule i j t t' s _ _ hc ⟨.int (g i j), H, I.tok _, ⟨_, rfl⟩, q⟩
theorem opI0 {f : Value → Value → Sem Value} {g : Int → Int → Int}
    (rule : ∀ (i j : Int) (t u : Tok) (s : Shared) (Q : Value → Shared → Prop) (E : Value → Shared → Prop), Q (.int (g i j) s.toks) { s with toks := s.toks + 1 } → wpAny (model X.prog X.w) X.A (f (.int i t) (.int j u)) Q E s) :
    OpR X f (rI0 fun i j => .int (g i j)) := by
  intro pins s σ H x y v u Q I rx ry h
  obtain ⟨i, j, rfl, rfl, q⟩ := h
  obtain ⟨t, rfl⟩ := rx
  obtain ⟨t', rfl⟩ := ry
  exact rule i j t t' s _ _ ⟨.int (g i j), H, I.tok _, ⟨_, rfl⟩, q⟩
theorem opB0 {f : Value → Value → Sem Value} {g : Int → Int → Bool}
    (rule : ∀ (i j : Int) (t u : Tok) (s : Shared) (Q : Value → Shared → Prop) (E : Value → Shared → Prop), Q (.bool (g i j)) s → wpAny (model X.prog X.w) X.A (f (.int i t) (.int j u)) Q E s) :
    OpR X f (rI0 fun i j => .bl (g i j)) := by
  intro pins s σ H x y v u Q I rx ry h
  obtain ⟨i, j, rfl, rfl, q⟩ := h
  obtain ⟨t, rfl⟩ := rx
  obtain ⟨t', rfl⟩ := ry
  exact rule i j t t' s _ _ ⟨.bl (g i j), H, I, rfl, q⟩

def CDiv (i j : Int) : Prop := 0 < j ∧ j < 1073741824
def CDivN (i j : Int) : Prop := j ≠ 0 ∧ j.natAbs < 1073741824
def CPow (i j : Int) : Prop := 0 ≤ j ∧ j ≤ 1000000 ∧ i.natAbs < 2 ^ 64
def CMul (i j : Int) : Prop := (-(2 ^ 64) < i ∧ i < 2 ^ 64) ∨ (-(2 ^ 64) < j ∧ j < 2 ^ 64)
theorem CMul.ok {i j : Int} (h : CMul i j) : IntMulOk i j := by
  rcases h with ⟨h1, h2⟩ | ⟨h1, h2⟩
  · exact .of_left (intBits_le_64 h1 h2)
  · exact .of_right (intBits_le_64 h1 h2)
theorem two_pow_nn (k : Nat) : (0 : Int) ≤ 2 ^ k := by
  rw [two_pow_cast]
  exact Int.natCast_nonneg _

theorem op_add : OpR X (binaryOp .Add) (rI0 fun i j => .int (i + j)) := opI0 fun _ _ _ _ _ _ _ q => add_int q
theorem op_sub : OpR X (binaryOp .Sub) (rI0 fun i j => .int (i - j)) := opI0 fun _ _ _ _ _ _ _ q => sub_int q
theorem op_mul : OpR X (binaryOp .Mult) (rI CMul fun i j => .int (i * j)) := opI fun _ _ _ _ _ _ _ hc q => mul_int q hc.ok
/-- // by a positive divisor -/
theorem op_fdiv : OpR X (binaryOp .FloorDiv) (rI CDiv fun i j => .int (i / j)) := opI fun i j _ _ _ _ _ hc q => by
  have h1 : (0 : Int) < j := hc.1
  have h2 : j < 1073741824 := hc.2
  exact floordiv_int (by omega) (by rw [Int.fdiv_eq_ediv_of_nonneg i (by omega)]; exact q) (.inl (PyProof.noPylong_small (by omega)))
theorem op_fdivN : OpR X (binaryOp .FloorDiv) (rI CDivN fun i j => .int (i.fdiv j)) := opI fun _ _ _ _ _ _ _ hc q => floordiv_int hc.1 q (.inl (PyProof.noPylong_small hc.2))
/-- % by a positive divisor of any size -/
theorem op_mod : OpR X (binaryOp .Mod) (rI (fun _ j => 0 < j) fun i j => .int (i % j)) := opI fun i j _ _ _ _ _ hc q => by
  have h1 : (0 : Int) < j := hc
  exact mod_int' (by omega) (by rw [Int.fmod_eq_emod_of_nonneg i (by omega)]; exact q)
theorem op_modN : OpR X (binaryOp .Mod) (rI (fun _ j => j ≠ 0) fun i j => .int (i.fmod j)) := opI fun _ _ _ _ _ _ _ hc q => mod_int' hc q
theorem op_pow : OpR X (binaryOp .Pow) (rI CPow fun i j => .int (i ^ j.toNat)) := opI fun _ _ _ _ _ _ _ hc q => pow_int_small hc.1 hc.2.1 hc.2.2 q
theorem op_shl : OpR X (binaryOp .LShift) (rI CPow fun i j => .int (i * 2 ^ j.toNat)) := opI fun _ _ _ _ _ _ _ hc q => lshift_int_small hc.1 hc.2.1 hc.2.2 q
theorem op_shr : OpR X (binaryOp .RShift) (rI (fun _ j => 0 ≤ j) fun i j => .int (i / 2 ^ j.toNat)) := opI fun i j _ _ _ _ _ hc q =>
  rshift_int hc (by rw [Int.fdiv_eq_ediv_of_nonneg i (two_pow_nn _)]; exact q)
theorem op_and : OpR X (binaryOp .BitAnd) (rI0 fun i j => .int (Builtin.bitAnd i j)) := opI0 fun _ _ _ _ _ _ _ q => and_int q
theorem op_or : OpR X (binaryOp .BitOr) (rI0 fun i j => .int (Builtin.bitOr i j)) := opI0 fun _ _ _ _ _ _ _ q => or_int q
theorem op_xor : OpR X (binaryOp .BitXor) (rI0 fun i j => .int (Builtin.bitXor i j)) := opI0 fun _ _ _ _ _ _ _ q => xor_int q

theorem iop_add : OpR X (inplaceOp .Add) (rI0 fun i j => .int (i + j)) := opI0 fun _ _ _ _ _ _ _ q => iadd_int q
theorem iop_sub : OpR X (inplaceOp .Sub) (rI0 fun i j => .int (i - j)) := opI0 fun _ _ _ _ _ _ _ q => isub_int q
theorem iop_mul : OpR X (inplaceOp .Mult) (rI CMul fun i j => .int (i * j)) := opI fun _ _ _ _ _ _ _ hc q => imul_int q hc.ok
theorem iop_fdiv : OpR X (inplaceOp .FloorDiv) (rI CDiv fun i j => .int (i / j)) := opI fun i j _ _ _ _ _ hc q => by
  have h1 : (0 : Int) < j := hc.1
  have h2 : j < 1073741824 := hc.2
  exact ifloordiv_int (by omega) (by rw [Int.fdiv_eq_ediv_of_nonneg i (by omega)]; exact q) (.inl (PyProof.noPylong_small (by omega)))
theorem iop_mod : OpR X (inplaceOp .Mod) (rI (fun _ j => 0 < j) fun i j => .int (i % j)) := opI fun i j _ _ _ _ _ hc q => by
  have h1 : (0 : Int) < j := hc
  exact imod_int (by omega) (by rw [Int.fmod_eq_emod_of_nonneg i (by omega)]; exact q)
theorem iop_shl : OpR X (inplaceOp .LShift) (rI CPow fun i j => .int (i * 2 ^ j.toNat)) := opI fun _ _ _ _ _ _ _ hc q => ilshift_int_small hc.1 hc.2.1 hc.2.2 q
theorem iop_shr : OpR X (inplaceOp .RShift) (rI (fun _ j => 0 ≤ j) fun i j => .int (i / 2 ^ j.toNat)) := opI fun i j _ _ _ _ _ hc q =>
  irshift_int hc (by rw [Int.fdiv_eq_ediv_of_nonneg i (two_pow_nn _)]; exact q)
theorem iop_and : OpR X (inplaceOp .BitAnd) (rI0 fun i j => .int (Builtin.bitAnd i j)) := opI0 fun _ _ _ _ _ _ _ q => iand_int q
theorem iop_or : OpR X (inplaceOp .BitOr) (rI0 fun i j => .int (Builtin.bitOr i j)) := opI0 fun _ _ _ _ _ _ _ q => ior_int q
theorem iop_xor : OpR X (inplaceOp .BitXor) (rI0 fun i j => .int (Builtin.bitXor i j)) := opI0 fun _ _ _ _ _ _ _ q => ixor_int q

theorem unI {f : Value → Sem Value} {g : Int → Int}
    (rule : ∀ (i : Int) (t : Tok) (s : Shared) (Q : Value → Shared → Prop) (E : Value → Shared → Prop), Q (.int (g i) s.toks) { s with toks := s.toks + 1 } → wpAny (model X.prog X.w) X.A (f (.int i t)) Q E s) :
    UnR X f (rU fun i => .int (g i)) := by
  intro pins s σ H x v Q I rx h
  obtain ⟨i, rfl, q⟩ := h
  obtain ⟨t, rfl⟩ := rx
  exact rule i t s _ _ ⟨.int (g i), H, I.tok _, ⟨_, rfl⟩, q⟩
theorem un_neg : UnR X (unaryOp .USub) (rU fun i => .int (-i)) := unI fun _ _ _ _ _ q => neg_int q
theorem un_inv : UnR X (unaryOp .Invert) (rU fun i => .int (Builtin.bitNot i)) := unI fun _ _ _ _ _ q => invert_int q

/-! ### bools among ints: n += (a < b) -/
theorem op_add_ib : OpR X (binaryOp .Add) (fun x y H Q => ∃ i k, x = .int i ∧ y = .bl k ∧ Q (.int (i + b2i k)) H) := by
  intro pins s σ H x y v u Q I rx ry h
  obtain ⟨i, k, rfl, rfl, q⟩ := h
  obtain ⟨t, rfl⟩ := rx
  cases ry
  exact add_int_bool ⟨.int (i + b2i k), H, I.tok _, ⟨_, rfl⟩, q⟩
end

/-! ### comparisons -/
/-- the scalars that == tells apart as data does -/
def scal : V → V → Bool
  | .non, .non => true | .non, .int _ => true | .int _, .non => true | .non, .bl _ => true | .bl _, .non => true | .non, .str _ => true | .str _, .non => true
  | .int _, .int _ => true | .bl _, .bl _ => true | .str _, .str _ => true | .byt _, .byt _ => true
  | .int _, .str _ => true | .str _, .int _ => true | .bl _, .str _ => true | .str _, .bl _ => true
  | _, _ => false
def rEq : R2 := fun x y H Q => scal x y = true ∧ Q (.bl (decide (x = y))) H
def rNe : R2 := fun x y H Q => scal x y = true ∧ Q (.bl (!decide (x = y))) H

theorem dec_int {i j : Int} : decide (V.int i = V.int j) = (i == j) := by
  rw [Bool.eq_iff_iff]
  simp
theorem dec_bl {i j : Bool} : decide (V.bl i = V.bl j) = (i == j) := by
  rw [Bool.eq_iff_iff]
  simp
theorem dec_str {i j : Str} : decide (V.str i = V.str j) = (i == j) := by
  rw [Bool.eq_iff_iff]
  simp
theorem dec_byt {i j : Array UInt8} : decide (V.byt i = V.byt j) = (i.toList == j.toList) := by
  rw [Bool.eq_iff_iff]
  cases i
  cases j
  simp

section
variable {X : Cx} {a b c : Expr} {ta tb tc : TE} {pos : Pos}
theorem fin_bl {pins : List (Addr × Obj)} {σ : St} {H : Hp} {s : Shared} {Q : VK} {k k' : Bool} (I : Inv X pins σ H s) (q : Q (.bl k) H) (e : k = k') : EP X pins σ Q (.bool k') s := by
  subst e
  exact ⟨.bl k, H, I, rfl, q⟩
theorem op_eq : OpR X (compareOp .Eq) rEq := by
  intro pins s σ H x y v u Q I rx ry h
  obtain ⟨hs, q⟩ := h
  cases x with
  | non =>
    cases rx
    cases y with
    | non => cases ry; exact PySem.EqNone.eq_none_none (fin_bl I q (by simp))
    | bl j => cases ry; exact PySem.EqNone.eq_none_bool (fin_bl I q (by simp))
    | int j => obtain ⟨t', rfl⟩ := ry; exact PySem.EqNone.eq_none_int (fin_bl I q (by simp))
    | str j => obtain ⟨t', rfl⟩ := ry; exact PySem.EqNone.eq_none_str (fin_bl I q (by simp))
    | _ => exact absurd (show false = true from hs) Bool.false_ne_true
  | bl i =>
    cases rx
    cases y with
    | non => cases ry; exact PySem.EqNone.eq_bool_none (fin_bl I q (by simp))
    | bl j => cases ry; exact eq_bool (fin_bl I q dec_bl)
    | str j => obtain ⟨t', rfl⟩ := ry; exact PySem.EqMixed.eq_bool_str (fin_bl I q (by simp))
    | _ => exact absurd (show false = true from hs) Bool.false_ne_true
  | int i =>
    obtain ⟨t, rfl⟩ := rx
    cases y with
    | non => cases ry; exact PySem.EqNone.eq_int_none (fin_bl I q (by simp))
    | int j => obtain ⟨t', rfl⟩ := ry; exact eq_int (fin_bl I q dec_int)
    | str j => obtain ⟨t', rfl⟩ := ry; exact PySem.EqMixed.eq_int_str (fin_bl I q (by simp))
    | _ => exact absurd (show false = true from hs) Bool.false_ne_true
  | str i =>
    obtain ⟨t, rfl⟩ := rx
    cases y with
    | non => cases ry; exact PySem.EqNone.eq_str_none (fin_bl I q (by simp))
    | bl j => cases ry; exact PySem.EqMixed.eq_str_bool (fin_bl I q (by simp))
    | int j => obtain ⟨t', rfl⟩ := ry; exact PySem.EqMixed.eq_str_int (fin_bl I q (by simp))
    | str j => obtain ⟨t', rfl⟩ := ry; exact eq_str (fin_bl I q dec_str)
    | _ => exact absurd (show false = true from hs) Bool.false_ne_true
  | byt i =>
    obtain ⟨t, rfl⟩ := rx
    cases y with
    | byt j => obtain ⟨t', rfl⟩ := ry; exact PySem.W.eq_bytes (fin_bl I q dec_byt)
    | _ => exact absurd (show false = true from hs) Bool.false_ne_true
  | _ => cases y <;> exact absurd (show false = true from hs) Bool.false_ne_true
theorem op_ne : OpR X (compareOp .NotEq) rNe := by
  intro pins s σ H x y v u Q I rx ry h
  obtain ⟨hs, q⟩ := h
  cases x with
  | non =>
    cases rx
    cases y with
    | non => cases ry; exact PySem.EqNone.ne_none_none (fin_bl I q (by simp))
    | bl j => cases ry; exact PySem.EqNone.ne_none_bool (fin_bl I q (by simp))
    | int j => obtain ⟨t', rfl⟩ := ry; exact PySem.EqNone.ne_none_int (fin_bl I q (by simp))
    | str j => obtain ⟨t', rfl⟩ := ry; exact PySem.EqNone.ne_none_str (fin_bl I q (by simp))
    | _ => exact absurd (show false = true from hs) Bool.false_ne_true
  | bl i =>
    cases rx
    cases y with
    | non => cases ry; exact PySem.EqNone.ne_bool_none (fin_bl I q (by simp))
    | bl j => cases ry; exact ne_bool (fin_bl I q (congrArg not dec_bl))
    | str j => obtain ⟨t', rfl⟩ := ry; exact PySem.EqMixed.ne_bool_str (fin_bl I q (by simp))
    | _ => exact absurd (show false = true from hs) Bool.false_ne_true
  | int i =>
    obtain ⟨t, rfl⟩ := rx
    cases y with
    | non => cases ry; exact PySem.EqNone.ne_int_none (fin_bl I q (by simp))
    | int j => obtain ⟨t', rfl⟩ := ry; exact ne_int (fin_bl I q (congrArg not dec_int))
    | str j => obtain ⟨t', rfl⟩ := ry; exact PySem.EqMixed.ne_int_str (fin_bl I q (by simp))
    | _ => exact absurd (show false = true from hs) Bool.false_ne_true
  | str i =>
    obtain ⟨t, rfl⟩ := rx
    cases y with
    | non => cases ry; exact PySem.EqNone.ne_str_none (fin_bl I q (by simp))
    | bl j => cases ry; exact PySem.EqMixed.ne_str_bool (fin_bl I q (by simp))
    | int j => obtain ⟨t', rfl⟩ := ry; exact PySem.EqMixed.ne_str_int (fin_bl I q (by simp))
    | str j => obtain ⟨t', rfl⟩ := ry; exact ne_str (fin_bl I q (congrArg not dec_str))
    | _ => exact absurd (show false = true from hs) Bool.false_ne_true
  | byt i =>
    obtain ⟨t, rfl⟩ := rx
    cases y with
    | byt j => obtain ⟨t', rfl⟩ := ry; exact PySem.W.ne_bytes (fin_bl I q (congrArg not dec_byt))
    | _ => exact absurd (show false = true from hs) Bool.false_ne_true
  | _ => cases y <;> exact absurd (show false = true from hs) Bool.false_ne_true

theorem op_lt : OpR X (compareOp .Lt) (rI0 fun i j => .bl (decide (i < j))) := opB0 fun _ _ _ _ _ _ _ q => lt_int q
theorem op_le : OpR X (compareOp .LtE) (rI0 fun i j => .bl (decide (i ≤ j))) := opB0 fun _ _ _ _ _ _ _ q => le_int q
theorem op_gt : OpR X (compareOp .Gt) (rI0 fun i j => .bl (decide (j < i))) := opB0 fun _ _ _ _ _ _ _ q => gt_int q
theorem op_ge : OpR X (compareOp .GtE) (rI0 fun i j => .bl (decide (j ≤ i))) := opB0 fun _ _ _ _ _ _ _ q => ge_int q
theorem op_lt_str : OpR X (compareOp .Lt) (fun x y H Q => ∃ i j, x = .str i ∧ y = .str j ∧ Q (.bl (decide (i.cps.toList < j.cps.toList))) H) := by
  intro pins s σ H x y v u Q I rx ry h
  obtain ⟨i, j, rfl, rfl, q⟩ := h
  obtain ⟨t, rfl⟩ := rx
  obtain ⟨t', rfl⟩ := ry
  exact lt_str (fin_bl I q rfl)
/-- the one string within the other -/
theorem op_in_str : OpR X (compareOp .In) (fun x y H Q => ∃ i j, x = .str i ∧ y = .str j ∧ Q (.bl (!(Builtin.Str.occurrences j i 0 j.length 1).isEmpty)) H) := by
  intro pins s σ H x y v u Q I rx ry h
  obtain ⟨i, j, rfl, rfl, q⟩ := h
  obtain ⟨t, rfl⟩ := rx
  obtain ⟨t', rfl⟩ := ry
  exact in_str (fin_bl I q rfl)

/-- is None, is not None: the right side a value none -/
theorem op_isN : OpR X (compareOp .Is) (fun x y H Q => y = .non ∧ Q (.bl (decide (x = .non))) H) := by
  intro pins s σ H x y v u Q I rx ry h
  obtain ⟨rfl, q⟩ := h
  cases ry
  refine is_none_gen (fin_bl I q ?_)
  cases x <;> first
    | (cases rx; rfl)
    | (obtain ⟨t, rfl⟩ := rx; rfl)
theorem op_notN : OpR X (compareOp .IsNot) (fun x y H Q => y = .non ∧ Q (.bl (!decide (x = .non))) H) := by
  intro pins s σ H x y v u Q I rx ry h
  obtain ⟨rfl, q⟩ := h
  cases ry
  refine isnot_none_gen (fin_bl I q ?_)
  cases x <;> first
    | (cases rx; rfl)
    | (obtain ⟨t, rfl⟩ := rx; rfl)

theorem op_notin_str : OpR X (compareOp .NotIn) (fun x y H Q => ∃ i j, x = .str i ∧ y = .str j ∧ Q (.bl (!(!(Builtin.Str.occurrences j i 0 j.length 1).isEmpty))) H) := by
  intro pins s σ H x y v u Q I rx ry h
  obtain ⟨i, j, rfl, rfl, q⟩ := h
  obtain ⟨t, rfl⟩ := rx
  obtain ⟨t', rfl⟩ := ry
  exact notIn_str (fin_bl I q rfl)
/-- is, is not of two objects that are tracked lists or instances -/
def isObj : HO → Bool
  | .lst _ => true
  | .ins _ _ _ => true
  | _ => false
theorem obj_there {pins : List (Addr × Obj)} {s : Shared} {σ : St} {H : Hp} {a : Addr} {o : HO} (I : Inv X pins σ H s) (h : H a = some o) (p : isObj o = true) : ∃ ob, s.heap.get? a = some ob ∧ ob.cls ≠ .type "tuple" := by
  cases o with
  | lst xs =>
    obtain ⟨_, its, n, _, e⟩ : xs.length ≤ sizeLine ∧ ∃ (its : List Value) (n : Nat), Vals xs its ∧ s.heap.get? a = some { cls := .type "list", data := .seq its.toArray n } := I.hok a _ h
    exact ⟨_, e, (by show Value.type "list" ≠ .type "tuple"; decide +kernel)⟩
  | ins C dx fs =>
    have x := I.hok a _ h
    obtain ⟨_, _, _, e, _⟩ := x
    exact ⟨_, e, (by show Value.ref C ≠ .type "tuple"; exact fun z => by cases z)⟩
  | _ => exact absurd (show false = true from p) Bool.false_ne_true
theorem op_is_ref : OpR X (compareOp .Is) (fun x y H Q => ∃ a b oa ob, x = .ref a ∧ y = .ref b ∧ H a = some oa ∧ isObj oa = true ∧ H b = some ob ∧ isObj ob = true ∧ Q (.bl (decide (a = b))) H) := by
  intro pins s σ H x y v u Q I rx ry h
  obtain ⟨a, b, oa, ob, rfl, rfl, ha, pa, hb, pb, q⟩ := h
  cases rx
  cases ry
  obtain ⟨o1, e1, n1⟩ := obj_there I ha pa
  obtain ⟨o2, e2, _⟩ := obj_there I hb pb
  by_cases z : a = b
  · subst z
    exact wpAny_is_ref_self (fin_bl I q (by simp))
  · exact wpAny_is_ref_other z e1 e2 n1 (fin_bl I q (by simp [z]))
theorem op_isnot_ref : OpR X (compareOp .IsNot) (fun x y H Q => ∃ a b oa ob, x = .ref a ∧ y = .ref b ∧ H a = some oa ∧ isObj oa = true ∧ H b = some ob ∧ isObj ob = true ∧ Q (.bl (!decide (a = b))) H) := by
  intro pins s σ H x y v u Q I rx ry h
  obtain ⟨a, b, oa, ob, rfl, rfl, ha, pa, hb, pb, q⟩ := h
  cases rx
  cases ry
  obtain ⟨o1, e1, n1⟩ := obj_there I ha pa
  obtain ⟨o2, e2, _⟩ := obj_there I hb pb
  by_cases z : a = b
  · subst z
    exact wpAny_isNot_ref_self (fin_bl I q (by simp))
  · exact wpAny_isNot_ref_other z e1 e2 n1 (fin_bl I q (by simp [z]))

/-- two rules for one operation: by cases -/
theorem OpR.or {f : Value → Value → Sem Value} {r r' : R2} (h : OpR X f r) (h' : OpR X f r') : OpR X f (fun x y H Q => r x y H Q ∨ r' x y H Q) := by
  intro pins s σ H x y v u Q I rx ry q
  rcases q with q | q
  · exact h pins s σ H x y v u Q I rx ry q
  · exact h' pins s σ H x y v u Q I rx ry q

theorem nomark (b : Expr) {op : CmpOp} (h : op ≠ .In := by decide) (h2 : op ≠ .NotIn := by decide) : behindInMarks op b = false := by
  have e1 : (op == CmpOp.In) = false := by cases op <;> first | rfl | exact absurd rfl h
  have e2 : (op == CmpOp.NotIn) = false := by cases op <;> first | rfl | exact absurd rfl h2
  cases b <;> simp [behindInMarks, e1, e2]
/-- a comparison as a value; hm: nomark b, or (for in, not in) by with_unfolding_all rfl -/
theorem pe_cmpR {op : CmpOp} {r : R2} (ho : OpR X (compareOp op) r) (ha : PE X a ta) (hb : PE X b tb) (hm : behindInMarks op b = false) : PE X (.Compare a [op] [b] pos) (tOp r ta tb) := by
  intro pins s σ H Q I h
  exact wpAny_Compare1 (binT ha hb I h fun v u s2 x y H2 I2 rx ry q => ho pins s2 σ H2 x y v u Q I2 rx ry q) hm
/-- a reading of a value as a test -/
def tTest (t : TE) : TT := fun σ H Q => t σ H fun x H' => ∃ k, x = .bl k ∧ Q k H'
theorem pt_cmpR {op : CmpOp} {r : R2} (ho : OpR X (compareOp op) r) (ha : PE X a ta) (hb : PE X b tb) (hm : behindInMarks op b = false) : PT X (.Compare a [op] [b] pos) (tTest (tOp r ta tb)) := by
  intro pins s σ H Q I h
  refine wpAny_isTrue_Compare1 (thn (ha pins s σ H _ I h) fun v s1 ⟨x, H1, I1, r1, q1⟩ => thn (hb pins s1 σ H1 _ I1 q1) fun u s2 ⟨y, H2, I2, r2, q2⟩ =>
    thn (ho pins s2 σ H2 x y v u _ I2 r1 r2 q2) fun c s3 ⟨z, H3, I3, r3, k, e, q3⟩ => ?_) hm
  subst e
  cases r3
  exact wpAny_truthy_bool ⟨H3, I3, q3⟩
/-- a op1 b op2 c -/
def tChain (r r' : R2) (ta tb tc : TE) : TE := fun σ H Q => ta σ H fun x H1 => tb σ H1 fun y H2 => r x y H2 fun z H3 => ∃ k, z = .bl k ∧
  (if k = true then tc σ H3 fun w' H4 => r' y w' H4 Q else Q (.bl false) H3)
theorem pe_chain {op op' : CmpOp} {r r' : R2} (ho : OpR X (compareOp op) r) (ho' : OpR X (compareOp op') r') (ha : PE X a ta) (hb : PE X b tb) (hc : PE X c tc)
    (hm : lastMarks [op, op'] [b, c] = false := by with_unfolding_all rfl) : PE X (.Compare a [op, op'] [b, c] pos) (tChain r r' ta tb tc) := by
  intro pins s σ H Q I h
  refine Compare_chain (thn (ha pins s σ H _ I h) fun v s1 ⟨x, H1, I1, r1, q1⟩ => chain_link (thn (hb pins s1 σ H1 _ I1 q1) fun u s2 ⟨y, H2, I2, r2, q2⟩ =>
    thn (ho pins s2 σ H2 x y v u _ I2 r1 r2 q2) fun d s3 ⟨z, H3, I3, r3, k, e, q3⟩ => ?_)) hm
  subst e
  cases r3
  refine wpAny_truthy_bool ?_
  cases k with
  | false => exact ite_ff ⟨.bl false, H3, I3, rfl, q3⟩
  | true => exact ite_tt (chain_last (thn (hc pins s3 σ H3 _ I3 q3) fun w' s4 ⟨z', H4, I4, r4, q4⟩ => ho' pins s4 σ H4 y z' u w' Q I4 r2 r4 q4))
theorem pt_chain {op op' : CmpOp} {r r' : R2} (ho : OpR X (compareOp op) r) (ho' : OpR X (compareOp op') r') (ha : PE X a ta) (hb : PE X b tb) (hc : PE X c tc)
    (hm : lastMarks [op, op'] [b, c] = false := by with_unfolding_all rfl) : PT X (.Compare a [op, op'] [b, c] pos) (tTest (tChain r r' ta tb tc)) := by
  intro pins s σ H Q I h
  refine isTrue_chain (thn (ha pins s σ H _ I h) fun v s1 ⟨x, H1, I1, r1, q1⟩ => test_link (thn (hb pins s1 σ H1 _ I1 q1) fun u s2 ⟨y, H2, I2, r2, q2⟩ =>
    thn (ho pins s2 σ H2 x y v u _ I2 r1 r2 q2) fun d s3 ⟨z, H3, I3, r3, k, e, q3⟩ => ?_)) hm
  subst e
  cases r3
  refine wpAny_truthy_bool ?_
  cases k with
  | false =>
    obtain ⟨k', e', q'⟩ := q3
    cases e'
    exact ite_ff ⟨H3, I3, q'⟩
  | true =>
    refine ite_tt (test_last (thn (hc pins s3 σ H3 _ I3 q3) fun w' s4 ⟨z', H4, I4, r4, q4⟩ => thn (ho' pins s4 σ H4 y z' u w' _ I4 r2 r4 q4) fun d' s5 ⟨z2, H5, I5, r5, k2, e2, q5⟩ => ?_))
    subst e2
    cases r5
    exact wpAny_truthy_bool ⟨H5, I5, q5⟩

/-! ### truth -/
/-- a value's truth by the abstract heap -/
def TruV (K : PySem.W.Frag) (x : V) (H : Hp) (k : Bool) : Prop :=
  match x with
  | .non => k = false
  | .bl b => k = b
  | .int i => k = (i != 0)
  | .str y => y.length ≤ sizeLine ∧ k = ((y.length : Int) != 0)
  | .byt y => y.size ≤ sizeLine ∧ k = ((y.size : Int) != 0)
  | .ref p => (∃ xs, SqL K H p xs ∧ k = !xs.isEmpty) ∨ (∃ xs, SqT K H p xs ∧ k = !xs.isEmpty) ∨ ∃ kvs, H p = some (.dK kvs) ∧ k = !kvs.isEmpty
  | _ => False
theorem isEmpty_kv {κ : Type} {kvs : List (κ × V)} {vs : List (κ × Value)} (r : KV kvs vs) : (!vs.isEmpty) = !kvs.isEmpty := by
  cases r <;> rfl
theorem isEmpty_of {xs : List V} {its : List Value} (r : Vals xs its) : (!its.toArray.isEmpty) = !xs.isEmpty := by
  cases r <;> simp
theorem line63 : (sizeLine : Nat) < 2 ^ 63 := by rw [sizeLine_eq]; decide
theorem tru_ok : TruR X (fun x H Q => ∃ k, TruV X.K x H k ∧ Q k H) := by
  intro pins s σ H x v Q I rx h
  obtain ⟨k, e, q⟩ := h
  have hl := line63
  have hs : sizeLine = 16777216 := sizeLine_eq
  cases x with
  | non =>
    cases rx
    have e' : k = false := e
    subst e'
    exact truthy_none ⟨H, I, q⟩
  | bl b =>
    cases rx
    have e' : k = b := e
    subst e'
    exact wpAny_truthy_bool ⟨H, I, q⟩
  | int i =>
    obtain ⟨t, rfl⟩ := rx
    have e' : k = (i != 0) := e
    subst e'
    exact PySem.P.truthy_int ⟨H, I, q⟩
  | str y =>
    obtain ⟨t, rfl⟩ := rx
    obtain ⟨hy, e'⟩ : y.length ≤ sizeLine ∧ k = ((y.length : Int) != 0) := e
    subst e'
    exact PySem.P.truthy_str (by omega) ⟨H, I.tok _, q⟩
  | byt y =>
    obtain ⟨t, rfl⟩ := rx
    obtain ⟨hy, e'⟩ : y.size ≤ sizeLine ∧ k = ((y.size : Int) != 0) := e
    subst e'
    exact PySem.W.truthy_bytes (by omega) ⟨H, I.tok _, q⟩
  | ref p =>
    cases rx
    have e' : (∃ xs, SqL X.K H p xs ∧ k = !xs.isEmpty) ∨ (∃ xs, SqT X.K H p xs ∧ k = !xs.isEmpty) ∨ ∃ kvs, H p = some (.dK kvs) ∧ k = !kvs.isEmpty := e
    rcases e' with ⟨xs, hx, e'⟩ | ⟨xs, hx, e'⟩ | ⟨kvs, hx, e'⟩
    · subst e'
      obtain ⟨its, r, pl, hz⟩ := I.list hx
      have hlen := r.length
      exact wpAny_truthy_list pl.isList (by simp only [List.size_toArray]; omega) ⟨H, I.tok _, by rw [isEmpty_of r]; exact q⟩
    · subst e'
      obtain ⟨its, r, pl, hz⟩ := I.tuple hx
      have hlen := r.length
      exact truthy_tuple pl (by simp only [List.size_toArray]; omega) ⟨H, I.tok _, by rw [isEmpty_of r]; exact q⟩
    · subst e'
      obtain ⟨hz, hS, vs, r, m⟩ : kvs.length ≤ sizeLine ∧ (p == sysModules) = false ∧ ∃ vs, KV kvs vs ∧ s.heap.DictOf (mixKind X.prog X.w) p vs := I.hok p _ hx
      have hlen : kvs.length = vs.length := Paired.length r
      exact wpAny_truthy_dict hS m (by omega) ⟨H, I.tok _, by rw [isEmpty_kv r]; exact q⟩
  | _ => exact (show False from e).elim
/-- any expression whose test is its value's truth (a name, a call, a subscript, a field ..: he by fun _ => rfl) -/
theorem pt_truth (ha : PE X a ta) (he : ∀ whole, isTrue a X.env whole = (do let v ← whole; standAt a.pos; holding [v] (truthy v))) :
    PT X a (fun σ H Q => ta σ H fun x H' => ∃ k, TruV X.K x H' k ∧ Q k H') := by
  intro pins s σ H Q I h
  exact isTrue_plain (thn (ha pins s σ H _ I h) fun v s1 ⟨x, H1, I1, r1, q1⟩ => tru_ok pins s1 σ H1 x v Q I1 r1 q1) (he _)

/-! ### strs and bytes -/
theorem pe_byt {x : List UInt8} {k : Nat} : PE X (.Constant (.bytes x) k pos) (fun _ H Q => Q (.byt x.toArray) H) := fun _ _ _ H _ I h => PySem.W.Constant_bytes ⟨.byt x.toArray, H, I.tok _, ⟨_, rfl⟩, h⟩
theorem op_add_str : OpR X (binaryOp .Add) (fun x y H Q => ∃ i j, x = .str i ∧ y = .str j ∧ i.length + j.length ≤ sizeLine ∧ Q (.str (i ++ j)) H) := by
  intro pins s σ H x y v u Q I rx ry h
  obtain ⟨i, j, rfl, rfl, hz, q⟩ := h
  obtain ⟨t, rfl⟩ := rx
  obtain ⟨t', rfl⟩ := ry
  exact add_str (fun t' tk => ⟨.str (i ++ j), H, I.tok _, ⟨_, rfl⟩, q⟩) hz
theorem iop_add_str : OpR X (inplaceOp .Add) (fun x y H Q => ∃ i j, x = .str i ∧ y = .str j ∧ i.length + j.length ≤ sizeLine ∧ Q (.str (i ++ j)) H) := by
  intro pins s σ H x y v u Q I rx ry h
  obtain ⟨i, j, rfl, rfl, hz, q⟩ := h
  obtain ⟨t, rfl⟩ := rx
  obtain ⟨t', rfl⟩ := ry
  exact iadd_str (fun t' tk => ⟨.str (i ++ j), H, I.tok _, ⟨_, rfl⟩, q⟩) hz
theorem op_add_byt : OpR X (binaryOp .Add) (fun x y H Q => ∃ i j, x = .byt i ∧ y = .byt j ∧ i.size + j.size ≤ 16777216 ∧ Q (.byt (i ++ j)) H) := by
  intro pins s σ H x y v u Q I rx ry h
  obtain ⟨i, j, rfl, rfl, hz, q⟩ := h
  obtain ⟨t, rfl⟩ := rx
  obtain ⟨t', rfl⟩ := ry
  exact PySem.W.KBy.add_bytes hz (fun t' tk => ⟨.byt (i ++ j), H, I.tok _, ⟨_, rfl⟩, q⟩)

def PlainIxT (b : Expr) : Prop := ∀ o i, subscripted b false o i = operate [o, i] (getItem o i)
/-- s[i], 0 ≤ i < len -/
theorem pe_item_str (ha : PE X a ta) (hb : PE X b tb) (hs : PlainIxT b) :
    PE X (.Subscript a b pos) (tOp (fun x y H Q => ∃ z i c, x = .str z ∧ y = .int i ∧ 0 ≤ i ∧ i < 2 ^ 63 ∧ i < z.length ∧ z.cps[i.toNat]? = some c ∧ Q (.str ⟨#[c]⟩) H) ta tb) := by
  intro pins s σ H Q I h
  refine Subscript_ (binT ha hb I h fun v u s2 x y H2 I2 rx ry q => ?_)
  obtain ⟨z, i, c, rfl, rfl, h0, h63, h1, hc, q⟩ := q
  obtain ⟨t, rfl⟩ := rx
  obtain ⟨t', rfl⟩ := ry
  have e : seqIndex? i z.length = some i.toNat := PySem.StrLaws.seqIndex_nonneg h0 h1
  exact tail_any (typeIs_str s2 z t) slot_str_getitem.lookup (getItem_str (c := c) (by
    have e1 : decide (i < -(2 ^ 63 : Int)) = false := decide_eq_false (by omega)
    have e2 : decide (i ≥ 2 ^ 63) = false := decide_eq_false (by omega)
    rw [e1, e2] <;> rfl) (by rw [e]; exact hc) ⟨.str ⟨#[c]⟩, H2, I2.tok _, ⟨_, rfl⟩, q⟩) (hs _ _)
/-- b[i], 0 ≤ i < len -/
theorem pe_item_byt (ha : PE X a ta) (hb : PE X b tb) (hs : PlainIxT b) :
    PE X (.Subscript a b pos) (tOp (fun x y H Q => ∃ (z : List UInt8) (i : Int), x = .byt z.toArray ∧ y = .int i ∧ z.length ≤ sizeLine ∧ 0 ≤ i ∧ i < z.length ∧ Q (.int ((z.getD i.toNat 0).toNat : Nat)) H) ta tb) := by
  intro pins s σ H Q I h
  refine Subscript_ (binT ha hb I h fun v u s2 x y H2 I2 rx ry q => ?_)
  obtain ⟨z, i, rfl, rfl, hz, h0, h1, q⟩ := q
  obtain ⟨t, rfl⟩ := rx
  obtain ⟨t', rfl⟩ := ry
  have hl : sizeLine = 16777216 := sizeLine_eq
  exact tail_any (PySem.W.typeIs_bytes s2 z.toArray t) PySem.W.FB.slot_bytes_getitem.lookup (PySem.W.getItem_bytes (by omega) h0 h1 ⟨.int ((z.getD i.toNat 0).toNat : Nat), H2, I2.tok _, ⟨_, rfl⟩, q⟩) (hs _ _)

/-! ### scalar builtins, by CallR -/
theorem vals1 {x : V} {us : List Value} (r : Vals [x] us) : ∃ u, us = [u] ∧ RelV x u := by
  cases r with
  | cons r1 r2 => cases r2; exact ⟨_, rfl, r1⟩
theorem vals2 {x y : V} {us : List Value} (r : Vals [x, y] us) : ∃ u w', us = [u, w'] ∧ RelV x u ∧ RelV y w' := by
  cases r with
  | cons r1 r2 =>
    cases r2 with
    | cons r3 r4 => cases r4; exact ⟨_, _, rfl, r1, r3⟩
theorem call_abs : CallR X (.builtin "abs") (fun xs H Q => ∃ i, xs = [.int i] ∧ Q (.int (if i < 0 then -i else i)) H) := by
  intro pins s σ H xs us Q I r h
  obtain ⟨i, rfl, q⟩ := h
  obtain ⟨u, rfl, t, rfl⟩ := vals1 r
  exact call_abs_int fun u tk => ⟨.int (if i < 0 then -i else i), H, I.tok _, ⟨_, rfl⟩, q⟩
theorem call_max2 (hc : X.calm = true) : CallR X (.builtin "max") (fun xs H Q => ∃ i j, xs = [.int i, .int j] ∧ Q (.int (if j > i then j else i)) H) := by
  intro pins s σ H xs us Q I r h
  obtain ⟨i, j, rfl, q⟩ := h
  obtain ⟨u, w', rfl, ⟨t, rfl⟩, ⟨t', rfl⟩⟩ := vals2 r
  refine max_two_ints (I.ok.hd hc) fun h' tk k => ⟨_, H, I.kept k, ?_, q⟩
  by_cases hj : j > i
  · rw [if_pos hj, if_pos hj]; exact ⟨_, rfl⟩
  · rw [if_neg hj, if_neg hj]; exact ⟨_, rfl⟩
theorem call_min2 (hc : X.calm = true) : CallR X (.builtin "min") (fun xs H Q => ∃ i j, xs = [.int i, .int j] ∧ Q (.int (if j < i then j else i)) H) := by
  intro pins s σ H xs us Q I r h
  obtain ⟨i, j, rfl, q⟩ := h
  obtain ⟨u, w', rfl, ⟨t, rfl⟩, ⟨t', rfl⟩⟩ := vals2 r
  refine min_two_ints (I.ok.hd hc) fun h' tk k => ⟨_, H, I.kept k, ?_, q⟩
  by_cases hj : j < i
  · rw [if_pos hj, if_pos hj]; exact ⟨_, rfl⟩
  · rw [if_neg hj, if_neg hj]; exact ⟨_, rfl⟩
theorem call_int1 : CallR X (.type "int") (fun xs H Q => (∃ i, xs = [.int i] ∧ Q (.int i) H) ∨ ∃ k, xs = [.bl k] ∧ Q (.int (if k then 1 else 0)) H) := by
  intro pins s σ H xs us Q I r h
  rcases h with ⟨i, rfl, q⟩ | ⟨k, rfl, q⟩
  · obtain ⟨u, rfl, t, rfl⟩ := vals1 r
    exact call_int_int ⟨.int i, H, I, ⟨_, rfl⟩, q⟩
  · obtain ⟨u, rfl, r1⟩ := vals1 r
    cases r1
    exact call_int_bool ⟨.int (if k then 1 else 0), H, I.tok _, ⟨_, rfl⟩, q⟩
theorem call_bool1 : CallR X (.type "bool") (fun xs H Q => (∃ i, xs = [.int i] ∧ Q (.bl (i != 0)) H) ∨ ∃ k, xs = [.bl k] ∧ Q (.bl k) H) := by
  intro pins s σ H xs us Q I r h
  rcases h with ⟨i, rfl, q⟩ | ⟨k, rfl, q⟩
  · obtain ⟨u, rfl, t, rfl⟩ := vals1 r
    exact call_bool_int ⟨.bl (i != 0), H, I, rfl, q⟩
  · obtain ⟨u, rfl, r1⟩ := vals1 r
    cases r1
    exact call_bool_bool ⟨.bl k, H, I, rfl, q⟩
theorem call_str_int : CallR X (.type "str") (fun xs H Q => ∃ i, xs = [.int i] ∧ i.natAbs.log2 < 1920 ∧ Q (.str (toString i)) H) := by
  intro pins s σ H xs us Q I r h
  obtain ⟨i, rfl, hz, q⟩ := h
  obtain ⟨u, rfl, t, rfl⟩ := vals1 r
  exact PySem.P.str_of_int hz ⟨.str _, H, I.tok _, ⟨_, rfl⟩, q⟩
theorem call_ord : CallR X (.builtin "ord") (fun xs H Q => ∃ x, xs = [.str x] ∧ x.length = 1 ∧ Q (.int (x.cps.getD 0 0 : Nat)) H) := by
  intro pins s σ H xs us Q I r h
  obtain ⟨x, rfl, hz, q⟩ := h
  obtain ⟨u, rfl, t, rfl⟩ := vals1 r
  exact ord_of_one hz ⟨.int _, H, I.tok _, ⟨_, rfl⟩, q⟩
theorem call_chr : CallR X (.builtin "chr") (fun xs H Q => ∃ i, xs = [.int i] ∧ 0 ≤ i ∧ i ≤ 1114111 ∧ Q (.str ⟨#[i.toNat]⟩) H) := by
  intro pins s σ H xs us Q I r h
  obtain ⟨i, rfl, h0, h1, q⟩ := h
  obtain ⟨u, rfl, t, rfl⟩ := vals1 r
  exact chr_of_range h0 h1 ⟨.str _, H, I.tok _, ⟨_, rfl⟩, q⟩
/-- len of a str, a bytes, a list, a tuple -/
def LenV (K : PySem.W.Frag) (x : V) (H : Hp) (n : Nat) : Prop :=
  match x with
  | .str y => y.length ≤ sizeLine ∧ n = y.length
  | .byt y => y.size ≤ sizeLine ∧ n = y.size
  | .ref p => (∃ xs, SqL K H p xs ∧ n = xs.length) ∨ ∃ xs, SqT K H p xs ∧ n = xs.length
  | _ => False
theorem call_len : CallR X (.builtin "len") (fun xs H Q => ∃ x n, xs = [x] ∧ LenV X.K x H n ∧ Q (.int n) H) := by
  intro pins s σ H xs us Q I r h
  obtain ⟨x, n, rfl, e, q⟩ := h
  obtain ⟨u, rfl, rx⟩ := vals1 r
  have hl := line63
  have hs : sizeLine = 16777216 := sizeLine_eq
  cases x with
  | str y =>
    obtain ⟨t, rfl⟩ := rx
    obtain ⟨hy, e'⟩ : y.length ≤ sizeLine ∧ n = y.length := e
    subst e'
    exact len_str (by omega) ⟨.int _, H, I.tok _, ⟨_, rfl⟩, q⟩
  | byt y =>
    obtain ⟨t, rfl⟩ := rx
    obtain ⟨hy, e'⟩ : y.size ≤ sizeLine ∧ n = y.size := e
    subst e'
    exact PySem.W.len_bytes (by omega) ⟨.int _, H, I.tok _, ⟨_, rfl⟩, q⟩
  | ref p =>
    cases rx
    have e' : (∃ xs, SqL X.K H p xs ∧ n = xs.length) ∨ ∃ xs, SqT X.K H p xs ∧ n = xs.length := e
    rcases e' with ⟨xs, hx, e'⟩ | ⟨xs, hx, e'⟩
    · subst e'
      obtain ⟨its, r', pl, hz⟩ := I.list hx
      have hlen := r'.length
      exact Calls.call_len_list pl.isList (by simp only [List.size_toArray]; omega) ⟨.int xs.length, H, I.tok _, ⟨_, by simp only [List.size_toArray]; rw [hlen]⟩, q⟩
    · subst e'
      obtain ⟨its, r', pl, hz⟩ := I.tuple hx
      have hlen := r'.length
      exact len_tuple pl (by simp only [List.size_toArray]; omega) ⟨.int xs.length, H, I.tok _, ⟨_, by simp only [List.size_toArray]; rw [hlen]⟩, q⟩
  | _ => exact (show False from e).elim
/-- divmod: a new tuple -/
theorem call_divmod : CallR X (.builtin "divmod") (fun xs H Q => ∃ i j, xs = [.int i, .int j] ∧ CDiv i j ∧ ∀ p, H p = none → Q (.ref p) (upd H p (.tup [.int (i / j), .int (i % j)]))) := by
  intro pins s σ H xs us Q I r h
  obtain ⟨i, j, rfl, ⟨h1, h2⟩, q⟩ := h
  obtain ⟨u, w', rfl, ⟨t, rfl⟩, ⟨t', rfl⟩⟩ := vals2 r
  refine divmod_int (by omega) ?_ (.inl (PyProof.noPylong_small (by omega)))
  rw [Int.fdiv_eq_ediv_of_nonneg i (by omega), Int.fmod_eq_emod_of_nonneg i (by omega)]
  have hn : H s.heap.objs.size = none := I.hok.fresh (Nat.le_refl _)
  refine ⟨.ref s.heap.objs.size, _, ?_, rfl, q _ hn⟩
  refine I.laid (fun b o e => Heap.get?_push_of_some _ e) (Nat.le_refl _) ⟨by simp only [List.length_cons, List.length_nil]; rw [sizeLine_eq]; decide, [.int (i / j) s.toks, .int (i % j) (s.toks + 1)], .cons ⟨_, rfl⟩ (.cons ⟨_, rfl⟩ .nil), ?_⟩
  exact ⟨_, Heap.get?_push_size s.heap rfl, rfl, 0, rfl⟩
end
end L2

namespace L2
open PySem PySem.Spec PyProof.Rows

/-! ### an instance, its attributes a map -/
structure ObjM (h : Heap) (x dx C : Addr) (mA : Str → Option Value) : Prop where
  obj : h.get? x = some (PySem.W.instObj C dx)
  ns : h.Ns1 dx mA
  ne : dx ≠ x

theorem lookIn_ns {h : Heap} {dx : Addr} {mA : Str → Option Value} (n : h.Ns1 dx mA) : ∃ od, h.get? dx = some od ∧ ∀ name, PySem.W.lookIn name od = some (mA name) := by
  obtain ⟨o, es, ep, ho, hd, hk, _, hm⟩ := n
  refine ⟨o, ho, fun name => ?_⟩
  have e := hm name
  unfold nsFind findBy at e
  rw [← Array.find?_toList] at e
  unfold PySem.W.lookIn
  rw [hd]
  dsimp only
  split
  · rename_i y q
    rw [q] at e
    exact congrArg some e
  · rename_i q
    rw [q] at e
    have a : es.toList.any (·.refKey) = false := by
      rw [List.any_eq_false]
      intro y hy
      obtain ⟨z, t, hkey⟩ := hk y (Array.mem_toList_iff.mp hy)
      simp [DictEntry.refKey, hkey]
    have a' : ¬ es.toList.any (·.refKey) = true := by rw [a]; exact Bool.false_ne_true
    rw [if_neg a']
    exact congrArg some e

theorem ObjM.look {h : Heap} {x dx C : Addr} {mA : Str → Option Value} (I : ObjM h x dx C mA) : ∃ od, PySem.W.InstAt h x (PySem.W.instObj C dx) C (some od) ∧ ∀ name, PySem.W.lookIn name od = some (mA name) :=
  let ⟨od, ho, hl⟩ := lookIn_ns I.ns
  ⟨od, ⟨I.obj, rfl, rfl, ho⟩, hl⟩

section
variable {prog : Program} {w : World} {A : Around} {E : Value → Shared → Prop} {s : Shared} {K : PySem.W.Frag} {x dx C f : Addr} {mA : Str → Option Value} {name : Str} {v : Value}

theorem get_map {expr : Bool} {Q : Value → Shared → Prop} (X : K.In s.heap) (I : ObjM s.heap x dx C mA) (hg : PySem.W.plainGet K C name = true) (hh : PySem.W.hasDictIn K C = true)
    (ha : PySem.W.findIn K (.ref C) name = some none) (hv : mA name = some v) (hv' : PySem.W.handedIn v = true) (h : Q v { s with toks := s.toks + 1 }) :
    wpAny (model prog w) A (getAttr (.ref x) name expr) Q E s := by
  obtain ⟨od, J, hl⟩ := I.look
  exact PySem.W.get_value X J (PySem.W.plainGet_of hg).1 (PySem.W.findObj_own hh ha rfl (by rw [hl, hv])) hv' h

theorem get_const {expr : Bool} {a : Value} {Q : Value → Shared → Prop} (X : K.In s.heap) (I : ObjM s.heap x dx C mA) (hg : PySem.W.plainGet K C name = true) (hh : PySem.W.hasDictIn K C = true)
    (ha : PySem.W.findIn K (.ref C) name = some (some a)) (hn : PySem.W.specialIn K a "__get__" = some none) (hc : PySem.W.copiedNames.contains name = false) (hv : mA name = none) (hv' : PySem.W.handedIn a = true)
    (h : Q a { s with toks := s.toks + 1 }) : wpAny (model prog w) A (getAttr (.ref x) name expr) Q E s := by
  obtain ⟨od, J, hl⟩ := I.look
  exact PySem.W.get_value X J (PySem.W.plainGet_of hg).1 (PySem.W.findObj_cls hh ha hn hv' hc (by rw [hl, hv])) hv' h

theorem get_meth {pl : Sem Bool} {Q : Value × List Value → Shared → Prop} (X : K.In s.heap) (I : ObjM s.heap x dx C mA) (hg : PySem.W.plainGet K C name = true)
    (hf : PySem.W.findIn K (.ref C) name = some (some (.ref f))) (ht : PySem.W.isFn K (.ref f) = true) (hv : mA name = none) (h : Q (.ref f, [.ref x]) s) :
    wpAny (model prog w) A (getMethod (.ref x) name pl) Q E s := by
  obtain ⟨od, J, hl⟩ := I.look
  exact PySem.W.method_fn X J (PySem.W.plainGet_of hg).1 (PySem.W.plainGet_of hg).2 hf (beq_iff_eq.mp ht) (by show (PySem.W.lookIn name od).map (·.isSome) = some false; rw [hl, hv]; rfl) h

theorem set_map {ns : List Str} {Q : Unit → Shared → Prop} (X : K.In s.heap) (I : ObjM s.heap x dx C mA)
    (hs : PySem.W.findIn K (.ref C) "__setattr__" = some (some (.builtin "object.__setattr__"))) (hp : PySem.W.plainOver K C = true) (ht : PySem.W.takerIn K C name = some none) (hh : PySem.W.hasDictIn K C = true)
    (hw : PySem.Within mA ns) (hsz : ns.length ≤ sizeLine)
    (h : ∀ h', ObjM h' x dx C (fun y => if y = name then some v else mA y) → Heap.SameBut dx s.heap h' → Q () { s with heap := h', toks := s.toks + 2 }) :
    wpAny (model prog w) A (setAttr (.ref x) name v) Q E s := by
  obtain ⟨od, J, hl⟩ := I.look
  refine PySem.W.set_plain X J hs (PySem.W.osa_open (s := { s with toks := s.toks + 1 }) (r := none) X J hp ht fun b => ?_)
  obtain ⟨cd, hc, hd'⟩ := PySem.W.any_some hh
  have hx : s.heap.get? x = some ⟨.ref C, some dx, .plain, #[]⟩ := I.obj
  refine wpAny_bind (wpAny_pure (wpAny_bind (wpAny_bind (wpAny_loadPart hx (wpAny_bind (PySem.W.Looks.here (s := { s with toks := s.toks + 1 }) (PySem.W.looks_clsIn X hc) ?_))))))
  rw [hd']
  refine wpAny_pure (a := some dx) (wpAny_bind (wpAny_pure (wpAny_bind ?_)))
  refine wpAny_nsSet1 (s := { s with toks := s.toks + 1 }) I.ns fun h' hn2 hs2 => ?_
  obtain ⟨oD, esD, epD, hoD, hdD, hcD⟩ := hn2.count (PySem.Within.cons name v hw)
  refine wpAny_bind (wpAny_lookBehind hoD (by rw [hdD]; exact pastItsLine_dict (Nat.le_trans hcD (by rw [List.length_cons]; omega))) ?_)
  exact wpAny_pure (h _ ⟨(hs2.2 _ (Ne.symm I.ne)).trans I.obj, hn2, I.ne⟩ hs2)

/-- C(..): the dict at the heap's end, the instance behind it; then its __init__ -/
theorem make_map {R : Result → Shared → Prop} {vs : List Value} {kw : List (Str × Value)} (X : K.In s.heap) (hm : PySem.W.makesIn K C = true)
    (hi : PySem.W.findIn K (.ref C) "__init__" = some (some (.ref f))) (hf : PySem.W.typeIn K (.ref f) = some (.type "function"))
    (h : codeAny (model prog w) (A.under (.builtin "type.__call__" ⟨.ref C :: vs, kw⟩)) (.call (.ref f) ⟨.ref (s.heap.objs.size + 1) :: vs, kw⟩) (PySem.W.InitBack (s.heap.objs.size + 1) R)
      { s with heap := (s.heap.push PySem.W.emptyDict).push (PySem.W.instObj C s.heap.objs.size) }) :
    codeAny (model prog w) A (.call (.ref C) ⟨vs, kw⟩) R s := by
  obtain ⟨hh, g, d, t, os⟩ := s
  exact PySem.W.make_core (PySem.W.makes_of X hm) (PySem.W.looks_findIn X hi) (fun self => PySem.W.bind_fn X self hf) (.inl rfl) h
/-- C() where there is no __init__ but object's -/
theorem make_map0 {R : Result → Shared → Prop} (X : K.In s.heap) (hm : PySem.W.makesIn K C = true)
    (hi : PySem.W.findIn K (.ref C) "__init__" = some (some (.builtin "object.__init__")))
    (hb : ∀ self, PySem.W.Looks (model prog w) s.heap (bindSpecial (.builtin "object.__init__") self) (.builtin "object.__init__", [self]))
    (h : codeAny (model prog w) (A.under (.builtin "type.__call__" ⟨[.ref C], []⟩)) (.call (.builtin "object.__init__") ⟨[.ref (s.heap.objs.size + 1)], []⟩) (PySem.W.InitBack (s.heap.objs.size + 1) R)
      { s with heap := (s.heap.push PySem.W.emptyDict).push (PySem.W.instObj C s.heap.objs.size) }) :
    codeAny (model prog w) A (.call (.ref C) ⟨[], []⟩) R s := by
  obtain ⟨hh, g, d, t, os⟩ := s
  exact PySem.W.make_core (PySem.W.makes_of X hm) (PySem.W.looks_findIn X hi) hb (.inr ⟨rfl, rfl⟩) h
end

/-! ### the attributes as a list of pairs -/
def putF (f : Str) (v : V) : List (Str × V) → List (Str × V)
  | [] => [(f, v)]
  | (g, x) :: r => if g = f then (g, v) :: r else (g, x) :: putF f v r
theorem lookup_putF (f g : Str) (v : V) : ∀ fs : List (Str × V), (putF f v fs).lookup g = if g = f then some v else fs.lookup g
  | [] => by
    show List.lookup g [(f, v)] = _
    by_cases h : g = f
    · have hb : (g == f) = true := beq_iff_eq.mpr h
      simp only [List.lookup, hb, if_pos h]
    · have hb : (g == f) = false := beq_eq_false_iff_ne.mpr h
      simp only [List.lookup, hb, if_neg h]
  | (k, x) :: r => by
    have ih := lookup_putF f g v r
    rw [show putF f v ((k, x) :: r) = (if k = f then (k, v) :: r else (k, x) :: putF f v r) from rfl]
    by_cases hk : k = f
    · rw [if_pos hk]
      by_cases h : g = k
      · have hb : (g == k) = true := beq_iff_eq.mpr h
        simp only [List.lookup, hb, if_pos (h.trans hk)]
      · have hb : (g == k) = false := beq_eq_false_iff_ne.mpr h
        simp only [List.lookup, hb, if_neg (fun e : g = f => h (e.trans hk.symm))]
    · rw [if_neg hk]
      by_cases h : g = k
      · have hb : (g == k) = true := beq_iff_eq.mpr h
        simp only [List.lookup, hb, if_neg (fun e : g = f => hk (h.symm.trans e))]
      · have hb : (g == k) = false := beq_eq_false_iff_ne.mpr h
        simp only [List.lookup, hb]
        exact ih
theorem keys_putF (f : Str) (v : V) : ∀ fs : List (Str × V), f ∈ (putF f v fs).map (·.1) ∧ ∀ g, g ∈ fs.map (·.1) → g ∈ (putF f v fs).map (·.1)
  | [] => ⟨by simp [putF], fun g h => by simp at h⟩
  | (k, x) :: r => by
    obtain ⟨i1, i2⟩ := keys_putF f v r
    rw [show putF f v ((k, x) :: r) = (if k = f then (k, v) :: r else (k, x) :: putF f v r) from rfl]
    by_cases hk : k = f
    · rw [if_pos hk]
      subst hk
      exact ⟨by simp, fun g h => by simpa using h⟩
    · rw [if_neg hk]
      refine ⟨?_, fun g h => ?_⟩
      · rw [List.map_cons]
        exact List.mem_cons_of_mem _ i1
      · rw [List.map_cons] at h ⊢
        rcases List.mem_cons.mp h with e | e
        · exact List.mem_cons.mpr (.inl e)
        · exact List.mem_cons_of_mem _ (i2 g e)
theorem length_putF (f : Str) (v : V) : ∀ fs : List (Str × V), (putF f v fs).length ≤ fs.length + 1
  | [] => by simp [putF]
  | (k, x) :: r => by
    have ih := length_putF f v r
    rw [show putF f v ((k, x) :: r) = (if k = f then (k, v) :: r else (k, x) :: putF f v r) from rfl]
    by_cases hk : k = f
    · rw [if_pos hk, List.length_cons, List.length_cons]; omega
    · rw [if_neg hk, List.length_cons, List.length_cons]; omega

theorem RelO.some_of {v : V} {o : Option Value} (r : RelO (some v) o) : ∃ u, o = some u ∧ RelV v u := by
  cases o with
  | none => exact (show False from r).elim
  | some u => exact ⟨u, rfl, r⟩
theorem RelO.none_of {o : Option Value} (r : RelO none o) : o = none := by
  cases o with
  | none => rfl
  | some u => exact (show False from r).elim
theorem handed_of {v : V} {u : Value} (r : RelV v u) : PySem.W.handedIn u = true := by
  cases v with
  | non => cases (show u = Value.none from r); rfl
  | bl b => cases (show u = Value.bool b from r); rfl
  | int i => obtain ⟨t, e⟩ := (show ∃ t, u = Value.int i t from r); cases e; rfl
  | str x => obtain ⟨t, e⟩ := (show ∃ t, u = Value.str x t from r); cases e; rfl
  | byt b => obtain ⟨t, e⟩ := (show ∃ t, u = Value.bytes b t from r); cases e; rfl
  | flt b => obtain ⟨t, e⟩ := (show ∃ t, u = Value.float b t from r); cases e; rfl
  | ref a => cases (show u = Value.ref a from r); rfl
  | ty n => cases (show u = Value.type n from r); rfl

section
variable {P : Program} {w : World} {H H' : Hp} {h h' : Heap} {a C dx : Addr} {fs fs' : List (Str × V)}
theorem ins_get (hok : HOk P w H h) (e : H a = some (.ins C dx fs)) : ∃ mA, ObjM h a dx C mA ∧ (∀ f, RelO (fs.lookup f) (mA f)) ∧ PySem.Within mA (fs.map (·.1)) ∧ fs.length ≤ 1000 ∧ H dx = some (.own a) := by
  obtain ⟨d, z, ne, ob, mA, n, r, q⟩ := (show ObjOk P w H h a (.ins C dx fs) from hok a _ e)
  exact ⟨mA, ⟨ob, n, ne⟩, r, q, z, d⟩
end

/-! ### what of the text a class must have -/
structure Cls (K : PySem.W.Frag) (C : Addr) : Prop where
  pg : PySem.W.plainGet K C Str.empty = true
  hd : PySem.W.hasDictIn K C = true
  po : PySem.W.plainOver K C = true
  sa : PySem.W.findIn K (.ref C) "__setattr__" = some (some (.builtin "object.__setattr__"))
theorem Cls.get {K : PySem.W.Frag} {C : Addr} (c : Cls K C) (f : Str) : PySem.W.plainGet K C f = true := c.pg
/-- no class of it has the name -/
def NoAttr (K : PySem.W.Frag) (C : Addr) (f : Str) : Prop := PySem.W.findIn K (.ref C) f = some none
theorem NoAttr.taker {K : PySem.W.Frag} {C : Addr} {f : Str} (n : NoAttr K C f) : PySem.W.takerIn K C f = some none := by
  unfold PySem.W.takerIn
  rw [show PySem.W.findIn K (.ref C) f = some none from n]
  rfl
/-- a constant of the class -/
structure Con (K : PySem.W.Frag) (C : Addr) (f : Str) (v : V) (u : Value) : Prop where
  at_ : PySem.W.findIn K (.ref C) f = some (some u)
  rel : RelV v u
  get : PySem.W.specialIn K u "__get__" = some none
  cp : PySem.W.copiedNames.contains f = false
/-- a method: a plain def of the class or of one above it -/
structure Meth (K : PySem.W.Frag) (C : Addr) (m : Str) (f : Addr) : Prop where
  at_ : PySem.W.findIn K (.ref C) m = some (some (.ref f))
  fn : PySem.W.isFn K (.ref f) = true
  kp : PySem.W.keepIn K (.ref f) = true

section
variable {X : Cx} {pins : List (Addr × Obj)} {σ : St} {H : Hp} {s : Shared} {a C dx : Addr} {fs : List (Str × V)} {f : Str} {v : V} {A : Around} {E : Value → Shared → Prop}

theorem getattr_ok {b : Bool} {Q : Value → Shared → Prop} (I : Inv X pins σ H s) (e : H a = some (.ins C dx fs)) (c : Cls X.K C) (n : NoAttr X.K C f) (l : fs.lookup f = some v)
    (h : ∀ u s', Inv X pins σ H s' → RelV v u → Q u s') : wpAny (model X.prog X.w) A (getAttr (.ref a) f b) Q E s := by
  obtain ⟨mA, O, r, _, _, _⟩ := ins_get I.hok e
  obtain ⟨u, hu, ru⟩ := RelO.some_of (v := v) (o := mA f) (by rw [← l]; exact r f)
  exact get_map I.kIn O (c.get f) c.hd n hu (handed_of ru) (h u _ (I.tok _) ru)

theorem getcon_ok {b : Bool} {u : Value} {Q : Value → Shared → Prop} (I : Inv X pins σ H s) (e : H a = some (.ins C dx fs)) (c : Cls X.K C) (k : Con X.K C f v u) (l : fs.lookup f = none)
    (h : ∀ s', Inv X pins σ H s' → Q u s') : wpAny (model X.prog X.w) A (getAttr (.ref a) f b) Q E s := by
  obtain ⟨mA, O, r, _, _, _⟩ := ins_get I.hok e
  have hn : mA f = none := RelO.none_of (by rw [← l]; exact r f)
  exact get_const I.kIn O (c.get f) c.hd k.at_ k.get k.cp hn (handed_of k.rel) (h _ (I.tok _))

theorem getmeth_ok {m : Str} {g : Addr} {pl : Sem Bool} {Q : Value × List Value → Shared → Prop} (I : Inv X pins σ H s) (e : H a = some (.ins C dx fs)) (c : Cls X.K C) (k : Meth X.K C m g) (l : fs.lookup m = none)
    (h : Q (.ref g, [.ref a]) s) : wpAny (model X.prog X.w) A (getMethod (.ref a) m pl) Q E s := by
  obtain ⟨mA, O, r, _, _, _⟩ := ins_get I.hok e
  have hn : mA m = none := RelO.none_of (by rw [← l]; exact r m)
  exact get_meth I.kIn O (c.get m) k.at_ k.fn hn h

theorem setattr_ok {y : V} {u : Value} {Q : Unit → Shared → Prop} (I : Inv X pins σ H s) (e : H a = some (.ins C dx fs)) (c : Cls X.K C) (n : NoAttr X.K C f) (hl : fs.length < 1000) (ry : RelV y u)
    (h : ∀ s', Inv X pins σ (upd H a (.ins C dx (putF f y fs))) s' → Q () s') : wpAny (model X.prog X.w) A (setAttr (.ref a) f u) Q E s := by
  obtain ⟨mA, O, r, wi, _, ho⟩ := ins_get I.hok e
  have hz : (fs.map (·.1)).length ≤ sizeLine := by rw [List.length_map, sizeLine_eq]; omega
  refine set_map I.kIn O c.sa c.po n.taker c.hd wi hz fun h' O' sb => h _ ?_
  have hd : ∃ o, h'.get? dx = some o := let ⟨o, _, _, e', _⟩ := O'.ns; ⟨o, e'⟩
  refine I.write (x := a) (e := dx) (by rw [e]; exact True.intro) (.inr ho) (fun b q hb z => (sb.2 b hb).trans z) hd ?_
  refine ⟨by rw [upd_ne O.ne]; exact ho, ?_, O.ne, O'.obj, _, O'.ns, fun g => ?_, fun g hg => ?_⟩
  · have := length_putF f y fs; omega
  · show RelO ((putF f y fs).lookup g) (if g = f then some u else mA g)
    rw [lookup_putF]
    by_cases q : g = f
    · rw [if_pos q, if_pos q]; exact ry
    · rw [if_neg q, if_neg q]; exact r g
  · by_cases q : g = f
    · rw [q]; exact (keys_putF f y fs).1
    · refine (keys_putF f y fs).2 g (wi g fun z => hg ?_)
      show (if g = f then some u else mA g) = none
      rw [if_neg q]; exact z

/-- a new instance, tracked, without attributes -/
theorem Inv.made (I : Inv X pins σ H s) : Inv X pins σ (upd (upd H s.heap.objs.size (.own (s.heap.objs.size + 1))) (s.heap.objs.size + 1) (.ins C s.heap.objs.size []))
    { s with heap := (s.heap.push PySem.W.emptyDict).push (PySem.W.instObj C s.heap.objs.size) } := by
  have e1 : (s.heap.push PySem.W.emptyDict).get? s.heap.objs.size = some PySem.W.emptyDict := Heap.get?_push_size s.heap rfl
  have e2 : ((s.heap.push PySem.W.emptyDict).push (PySem.W.instObj C s.heap.objs.size)).get? (s.heap.objs.size + 1) = some (PySem.W.instObj C s.heap.objs.size) := by
    have := Heap.get?_push_size (s.heap.push PySem.W.emptyDict) (o := PySem.W.instObj C s.heap.objs.size) rfl
    rwa [Heap.size_push] at this
  have e3 : (s.heap.push PySem.W.emptyDict).Ns s.heap.objs.size (fun _ => none) := ⟨PySem.W.emptyDict, #[], _, e1, rfl, (fun e he => absurd he (by simp)), fun _ => rfl⟩
  have I1 := I.laid (a := s.heap.objs.size) (o := .own (s.heap.objs.size + 1)) (h' := s.heap.push PySem.W.emptyDict) (t' := s.toks) (fun b u q => Heap.get?_push_of_some _ q) (Nat.le_refl _) ⟨_, e1⟩
  refine I1.laid (a := s.heap.objs.size + 1) (o := .ins C s.heap.objs.size []) (t' := s.toks) (fun b u q => Heap.get?_push_of_some _ q) (Nat.le_of_eq (Heap.size_push _ _)) ?_
  have ne : s.heap.objs.size ≠ s.heap.objs.size + 1 := Nat.ne_of_lt (Nat.lt_succ_self _)
  refine ⟨by rw [upd_ne ne, upd_same], Nat.zero_le _, ne, e2, fun _ => none, (Heap.Ns1.of_empty e3).at fun o q => Heap.get?_push_of_some _ q, fun _ => True.intro, fun y hy => absurd rfl hy⟩

/-- e.f where nothing but the object is asked: through attributeBase (super) and the last hold -/
theorem attr_of {prog : Program} {w : World} {env : Env} {e : Expr} {f : Str} {pos : Pos} {s : Shared} {Q : Value → Shared → Prop} (hb : attributeBase e f env (eval e env) = eval e env)
    (h : wpAny (model prog w) A (eval e env) (fun o s₁ => wpAny (model prog w) A (getAttr o f true) Q E s₁) E s) : wpAny (model prog w) A (eval (.Attribute e f pos) env) Q E s :=
  Attribute_any_ h (by rw [arm_eval_Attribute, hb])
end

/-! ### readings and rules -/
/-- e.f, an attribute of the instance -/
def tFld (K : PySem.W.Frag) (ta : TE) (f : Str) : TE := fun σ H Q => ta σ H fun x H1 => ∃ a C dx fs v, x = .ref a ∧ H1 a = some (.ins C dx fs) ∧ Cls K C ∧ NoAttr K C f ∧ fs.lookup f = some v ∧ Q v H1
/-- e.f, a constant of the class -/
def tCon (K : PySem.W.Frag) (ta : TE) (f : Str) : TE := fun σ H Q => ta σ H fun x H1 => ∃ a C dx fs v u, x = .ref a ∧ H1 a = some (.ins C dx fs) ∧ Cls K C ∧ Con K C f v u ∧ fs.lookup f = none ∧ Q v H1
/-- e.f = value -/
def sFld (K : PySem.W.Frag) (ta tv : TE) (f : Str) : TS := fun D σ H => tv σ H fun y H1 => ta σ H1 fun x H2 => ∃ a C dx fs, x = .ref a ∧ H2 a = some (.ins C dx fs) ∧ Cls K C ∧ NoAttr K C f ∧ fs.length < 1000 ∧
  D.nx σ (upd H2 a (.ins C dx (putF f y fs)))
/-- an augmented operator on two values -/
def InOp (X : Cx) (op : Operator) (rd : V → V → Hp → VK → Prop) : Prop :=
  ∀ (pins : List (Addr × Obj)) (s : Shared) (σ : St) (H : Hp) (x y : V) (u v : Value) (Q : VK), Inv X pins σ H s → RelV x u → RelV y v → rd x y H Q → wpAny (model X.prog X.w) X.A (inplaceOp op u v) (EP X pins σ Q) X.xe s
/-- e.f op= value -/
def sFldAug (K : PySem.W.Frag) (ta tv : TE) (rd : V → V → Hp → VK → Prop) (f : Str) : TS := fun D σ H => ta σ H fun x H1 => ∃ a C dx fs v, x = .ref a ∧ H1 a = some (.ins C dx fs) ∧ Cls K C ∧ NoAttr K C f ∧ fs.lookup f = some v ∧
  tv σ H1 fun y H2 => rd v y H2 fun z H3 => ∃ dx' fs', H3 a = some (.ins C dx' fs') ∧ fs'.length < 1000 ∧ D.nx σ (upd H3 a (.ins C dx' (putF f z fs')))

section
variable {X : Cx} {o e value : Expr} {f : Str} {pos pos' tpos : Pos} {ta tv : TE}
theorem pe_fld (he : PE X e ta) (hb : attributeBase e f X.env (eval e X.env) = eval e X.env) : PE X (.Attribute e f pos) (tFld X.K ta f) := by
  intro pins s σ H Q I h
  refine attr_of hb (thn (he pins s σ H _ I h) fun u s1 ⟨x, H1, I1, rx, a, C, dx, fs, v, ex, ea, c, n, l, q⟩ => ?_)
  subst ex
  obtain rfl : u = Value.ref a := rx
  exact getattr_ok I1 ea c n l fun u' s2 I2 ru => ⟨v, H1, I2, ru, q⟩
theorem pe_con (he : PE X e ta) (hb : attributeBase e f X.env (eval e X.env) = eval e X.env) : PE X (.Attribute e f pos) (tCon X.K ta f) := by
  intro pins s σ H Q I h
  refine attr_of hb (thn (he pins s σ H _ I h) fun u s1 ⟨x, H1, I1, rx, a, C, dx, fs, v, u0, ex, ea, c, k, l, q⟩ => ?_)
  subst ex
  obtain rfl : u = Value.ref a := rx
  exact getcon_ok I1 ea c k l fun s2 I2 => ⟨v, H1, I2, k.rel, q⟩
theorem ps_fld (ha : PE X o ta) (hv : PE X value tv) (hs : swapsWith value (some (.Attribute o f pos')) pos.line X.env = pure false) : PS X (.Assign [.Attribute o f pos'] value pos) (sFld X.K ta tv f) := by
  intro pins s σ H D I h
  refine plainObj_wpAny_Assign_Attribute (thn (hv pins s σ H _ I h) fun u s1 ⟨y, H1, I1, ry, q⟩ => thn (ha pins s1 σ H1 _ I1 q) fun ov s2 ⟨x, H2, I2, rx, a, C, dx, fs, ex, ea, c, n, l, q2⟩ => ?_) hs
  subst ex
  obtain rfl : ov = Value.ref a := rx
  exact setattr_ok I2 ea c n l ry fun s3 I3 => ⟨σ, _, I3, q2⟩
theorem ps_fldaug {op : Operator} {rd : V → V → Hp → VK → Prop} (ha : PE X o ta) (hv : PE X value tv) (hop : InOp X op rd) : PS X (.AugAssign (.Attribute o f tpos) op value pos) (sFldAug X.K ta tv rd f) := by
  intro pins s σ H D I h
  refine wpAny_AugAssign_AttributeAny (thn (ha pins s σ H _ I h) fun ov s1 ⟨x, H1, I1, rx, a, C, dx, fs, v, ex, ea, c, n, l, q⟩ => ?_)
  subst ex
  obtain rfl : ov = Value.ref a := rx
  refine getattr_ok I1 ea c n l fun u s2 I2 ru => thn (hv pins s2 σ H1 _ I2 q) fun w3 s3 ⟨y, H2, I3, ry, q3⟩ => thn (hop pins s3 σ H2 v y u w3 _ I3 ru ry q3) fun w4 s4 ⟨z, H3, I4, rz, dx', fs', ea', l', q4⟩ => ?_
  exact setattr_ok I4 ea' c n l' rz fun s5 I5 => ⟨σ, _, I5, q4⟩
def rAdd : V → V → Hp → VK → Prop := fun x y H Q => ∃ i j, x = .int i ∧ y = .int j ∧ Q (.int (i + j)) H
def rSub : V → V → Hp → VK → Prop := fun x y H Q => ∃ i j, x = .int i ∧ y = .int j ∧ Q (.int (i - j)) H
theorem in_add : InOp X .Add rAdd := by
  rintro pins s σ H x y u v Q I rx ry ⟨i, j, rfl, rfl, q⟩
  obtain ⟨t, rfl⟩ := (show ∃ t, u = Value.int i t from rx)
  obtain ⟨t', rfl⟩ := (show ∃ t', v = Value.int j t' from ry)
  exact PyProof.Rows.iadd_int ⟨.int (i + j), H, I.tok _, ⟨_, rfl⟩, q⟩
theorem in_sub : InOp X .Sub rSub := by
  rintro pins s σ H x y u v Q I rx ry ⟨i, j, rfl, rfl, q⟩
  obtain ⟨t, rfl⟩ := (show ∃ t, u = Value.int i t from rx)
  obtain ⟨t', rfl⟩ := (show ∃ t', v = Value.int j t' from ry)
  exact PyProof.Rows.isub_int ⟨.int (i - j), H, I.tok _, ⟨_, rfl⟩, q⟩

/-- what is between an instance and its method: the tree of a method call -/
theorem methcall_of {pl : Sem Bool} {m : Str} {apos : Pos} {args : List Expr} {pins : List (Addr × Obj)} {s : Shared} {σ : St} {H : Hp} {Q : Value → Shared → Prop} {te : TE} (he : PE X e te) (I : Inv X pins σ H s)
    (h : te σ H fun x H1 => ∃ a C dx fs g, x = .ref a ∧ H1 a = some (.ins C dx fs) ∧ Cls X.K C ∧ Meth X.K C m g ∧ fs.lookup m = none ∧
      ∀ s1, Inv X pins σ H1 s1 → wpAny (model X.prog X.w) X.A (callWith pos (.ref g) [.ref a] (backTo pos (starEach args X.env)) (backToKw pos (keywordEach [] X.env))) Q X.xe s1)
    (ht : eval (.Call (.Attribute e m apos) args [] pos) X.env = (do
      let ov ← eval e X.env
      standAt apos.atName
      let (f, first) ← holding [ov] (getMethod ov m pl)
      callWith pos f first (backTo pos (starEach args X.env)) (backToKw pos (keywordEach [] X.env)))) :
    wpAny (model X.prog X.w) X.A (eval (.Call (.Attribute e m apos) args [] pos) X.env) Q X.xe s := by
  refine PySem.W.methodCall_KW (pl := pl) (thn (he pins s σ H _ I h) fun u s1 ⟨x, H1, I1, rx, a, C, dx, fs, g, ex, ea, c, k, l, q⟩ => ?_) ht
  subst ex
  obtain rfl : u = Value.ref a := rx
  exact getmeth_ok I1 ea c k l (q s1 I1)
end

/-! ### isinstance -/
section
variable {X : Cx} {pins : List (Addr × Obj)} {σ : St} {H : Hp} {s : Shared} {A : Around} {E : Value → Shared → Prop} {Q : Value → Shared → Prop} {c : Value} {b : Bool}
/-- the type of a value, as the fragment's deciders take it; for an instance its class -/
inductive TyOf (K : PySem.W.Frag) (H : Hp) : V → Value → Prop where
  | non : TyOf K H .non (.type "NoneType")
  | bl (x : Bool) : TyOf K H (.bl x) (.type "bool")
  | int (i : Int) : TyOf K H (.int i) (.type "int")
  | str (x : Str) : TyOf K H (.str x) (.type "str")
  | flt (x : UInt64) : TyOf K H (.flt x) (.type "float")
  | lst {a : Addr} {xs : List V} (e : H a = some (.lst xs)) : TyOf K H (.ref a) (.type "list")
  | frz {a : Addr} {o : Obj} {xs : List V} (e : H a = some (.frz o (.lst xs))) : TyOf K H (.ref a) (.type "list")
  | tup {a : Addr} {xs : List V} (e : H a = some (.tup xs)) : TyOf K H (.ref a) (.type "tuple")
  | dK {a : Addr} {kvs : List (Key × V)} (e : H a = some (.dK kvs)) : TyOf K H (.ref a) (.type "dict")
  | dT {a : Addr} {kvs : List (List Key × V)} (e : H a = some (.dT kvs)) : TyOf K H (.ref a) (.type "dict")
  | ins {a C dx : Addr} {fs : List (Str × V)} (e : H a = some (.ins C dx fs)) (cl : Cls K C) (ha : PySem.W.findIn K (.ref C) "__class__" = some (some (.builtin "object.__class__")))
      (hn : PySem.W.specialIn K (.builtin "object.__class__") "__get__" = some (some (.builtin "getset_descriptor.__get__"))) (htk : PySem.W.takesIn K (.builtin "object.__class__") = some true)
      (hm : PySem.W.mroIn K C (.type "object") = some true) : TyOf K H (.ref a) (.ref C)
/-- isinstance(x, c) for one class c, a built-in or an own one: kitOne's answer -/
theorem isinst_ok {x : V} {u t : Value} (I : Inv X pins σ H s) (rx : RelV x u) (ty : TyOf X.K H x t) (e : PySem.W.kitOne X.K t c = some b) (h : ∀ tk, Q (.bool b) { s with toks := tk }) :
    wpAny (model X.prog X.w) A (call (.builtin "isinstance") [u, c]) Q E s := by
  cases ty with
  | non => cases (show u = Value.none from rx); exact PySem.W.kia_one PySem.W.kitx_none I.kIn True.intro e (fun z => nomatch z) h
  | bl y => cases (show u = Value.bool y from rx); exact PySem.W.kia_one PySem.W.kitx_bool I.kIn True.intro e (fun z => nomatch z) h
  | int i => obtain ⟨t, q⟩ := (show ∃ t, u = Value.int i t from rx); cases q; exact PySem.W.kia_one PySem.W.kitx_int I.kIn True.intro e (fun z => nomatch z) h
  | str y => obtain ⟨t, q⟩ := (show ∃ t, u = Value.str y t from rx); cases q; exact PySem.W.kia_one PySem.W.kitx_str I.kIn True.intro e (fun z => nomatch z) h
  | flt y => obtain ⟨t, q⟩ := (show ∃ t, u = Value.float y t from rx); cases q; exact PySem.W.kia_one PySem.W.kitx_float I.kIn True.intro e (fun z => nomatch z) h
  | @lst a xs ea =>
    cases (show u = Value.ref a from rx)
    obtain ⟨_, _, n, _, h1⟩ := (show ObjOk X.prog X.w H s.heap a (.lst xs) from I.hok a _ ea)
    exact PySem.W.kia_one PySem.W.kitx_list I.kIn ⟨_, h1, rfl⟩ e (fun z => nomatch z) h
  | @frz a ob xs ea =>
    cases (show u = Value.ref a from rx)
    obtain ⟨_, _, _, n, _, h1⟩ := (show ObjOk X.prog X.w H s.heap a (.frz ob (.lst xs)) from I.hok a _ ea)
    exact PySem.W.kia_one PySem.W.kitx_list I.kIn ⟨_, h1, rfl⟩ e (fun z => nomatch z) h
  | @tup a xs ea =>
    cases (show u = Value.ref a from rx)
    obtain ⟨_, _, _, p⟩ := (show ObjOk X.prog X.w H s.heap a (.tup xs) from I.hok a _ ea)
    obtain ⟨o, h1, h2, _⟩ := p
    exact PySem.W.kia_one PySem.W.kitx_tuple I.kIn ⟨o, h1, h2⟩ e (fun z => nomatch z) h
  | @dK a kvs ea =>
    cases (show u = Value.ref a from rx)
    obtain ⟨_, _, vs, _, p⟩ := (show ObjOk X.prog X.w H s.heap a (.dK kvs) from I.hok a _ ea)
    obtain ⟨o, es, ep, h1, h2, _⟩ := p
    exact PySem.W.kia_one PySem.W.kitx_dict I.kIn ⟨o, h1, h2.1⟩ e (fun z => nomatch z) h
  | @dT a kvs ea =>
    cases (show u = Value.ref a from rx)
    obtain ⟨_, _, xs, _, o, es, ep, h1, h2, _⟩ := (show ObjOk X.prog X.w H s.heap a (.dT kvs) from I.hok a _ ea)
    exact PySem.W.kia_one PySem.W.kitx_dict I.kIn ⟨o, h1, h2.1⟩ e (fun z => nomatch z) h
  | @ins a C dx fs ea cl ha hn htk hm =>
    cases (show u = Value.ref a from rx)
    obtain ⟨mA, O, _⟩ := ins_get I.hok ea
    obtain ⟨od, J, _⟩ := O.look
    exact PySem.W.kia_one (PySem.W.kitx_own (cl.get _) cl.hd ha hn htk hm) I.kIn J e (fun z => nomatch z) h
end
end L2

namespace L2
open PySem PySem.Spec PyProof.Rows

/-! ### room -/
structure Room (k : Nat) (A : Around) : Prop where
  hd : A.handled = none
  dp : A.depth + 3 * k + 5 < recursionLimit
  un : A.units + 16 * k + 200 < cLine
theorem Room.mono {j k : Nat} {A : Around} (r : Room k A) (h : j ≤ k) : Room j A := ⟨r.hd, by have := r.dp; omega, by have := r.un; omega⟩
theorem Room.deeper {k : Nat} {A : Around} (r : Room (k + 1) A) (env : Env) : Room k (A.deeper env) :=
  ⟨r.hd, by have := r.dp; show A.depth + 1 + 3 * k + 5 < _; omega, by have := r.un; show A.units + 3 + 16 * k + 200 < _; omega⟩
theorem Room.in1 {k : Nat} {A : Around} (r : Room (k + 1) A) : Room k A.in1 :=
  ⟨r.hd, by have := r.dp; show A.depth + 3 * k + 5 < _; omega, by have := r.un; show A.units + 1 + 16 * k + 200 < _; omega⟩
theorem make_depth {A : Around} {C : Addr} {us : List Value} {kw : List (Str × Value)} : (A.under (.builtin "type.__call__" ⟨.ref C :: us, kw⟩)).depth = A.depth + 1 := by
  first | rfl | simp [Around.under, Code.weight, Code.isCreation, Code.isGuard, Code.isCaller, Code.frames, Code.isFrame, guardIds]
theorem make_units {A : Around} {C : Addr} {us : List Value} {kw : List (Str × Value)} : (A.under (.builtin "type.__call__" ⟨.ref C :: us, kw⟩)).units = A.units + 1 := by
  first | rfl | simp [Around.under, Code.cUnits, Code.frames, Code.isFrame]
theorem Room.make {k : Nat} {A : Around} (r : Room (k + 1) A) (C : Addr) (us : List Value) (kw : List (Str × Value)) : Room k (A.under (.builtin "type.__call__" ⟨.ref C :: us, kw⟩)) :=
  ⟨r.hd, by have := r.dp; rw [make_depth]; omega, by have := r.un; rw [make_units]; omega⟩
theorem Room.depth {k : Nat} {A : Around} (r : Room k A) : A.depth < recursionLimit := by have := r.dp; omega
theorem Room.units {k : Nat} {A : Around} (r : Room k A) : A.units + 64 < cLine := by have := r.un; omega
theorem Room.units0 {k : Nat} {A : Around} (r : Room k A) : A.units < cLine := by have := r.un; omega

/-! ### argument lists and displays -/
def tNil : TA := fun _ H Q => Q [] H
def tCons (ta : TE) (tr : TA) : TA := fun σ H Q => ta σ H fun x H1 => tr σ H1 fun xs H2 => Q (x :: xs) H2
section
variable {X : Cx} {e : Expr} {es : List Expr} {te : TE} {t : TA} {pos : Pos}
theorem pa_nil : PA X [] tNil := fun _ _ _ _ H Q I h => Calls.spliced_nil ⟨[], H, I, .nil, h⟩
theorem pa_cons (ha : PE X e te) (hr : PA X es t) (hs : starEach (e :: es) X.env = (false, eval e X.env) :: starEach es X.env := by rfl) : PA X (e :: es) (tCons te t) := by
  intro pos pins s σ H Q I h
  rw [hs]
  show wpAny _ _ (spliced ((false, eval e X.env) :: backTo pos (starEach es X.env))) _ _ s
  refine Calls.spliced_cons (thn (ha pins s σ H _ I h) fun u s1 ⟨x, H1, I1, r1, q1⟩ => ?_)
  exact thn (hr pos pins s1 σ H1 _ I1 q1) fun us s2 ⟨xs, H2, I2, r2, q2⟩ => ⟨x :: xs, H2, I2, .cons r1 r2, q2⟩

/-- a tuple, a list of written items -/
def tTup (t : TA) : TE := fun σ H Q => t σ H fun xs H1 => xs.length ≤ sizeLine ∧ ∀ p, H1 p = none → Q (.ref p) (upd H1 p (.tup xs))
def tLst (t : TA) : TE := fun σ H Q => t σ H fun xs H1 => xs.length ≤ sizeLine ∧ ∀ p, H1 p = none → Q (.ref p) (upd H1 p (.lst xs))
theorem pe_tup {x1} (h : PA X es t) : PE X (.Tuple es x1 pos) (tTup t) := by
  intro pins s σ H Q I hq
  refine wpAny_Tuple_spliced (thn (h pos pins s σ H _ I hq) fun us s1 ⟨xs, H1, I1, r, z, q⟩ => ⟨by rw [← r.length]; exact z, ?_⟩)
  have hf : H1 s1.heap.objs.size = none := I1.hok.fresh (Nat.le_refl _)
  refine ⟨.ref s1.heap.objs.size, upd H1 s1.heap.objs.size (.tup xs), I1.laid (t' := s1.toks) (fun b u e => Heap.get?_push_of_some _ e) (Nat.le_refl _) ?_, rfl, q _ hf⟩
  exact ⟨z, us, r, ⟨_, Heap.get?_push_size _ rfl, rfl, _, rfl⟩⟩
theorem pe_lst (h : PA X es t) : PE X (.List es pos) (tLst t) := by
  intro pins s σ H Q I hq
  refine wpAny_List_spliced (thn (h pos pins s σ H _ I hq) fun us s1 ⟨xs, H1, I1, r, z, q⟩ => ⟨by rw [← r.length]; exact z, ?_⟩)
  have hf : H1 s1.heap.objs.size = none := I1.hok.fresh (Nat.le_refl _)
  refine ⟨.ref s1.heap.objs.size, upd H1 s1.heap.objs.size (.lst xs), I1.laid (t' := s1.toks) (fun b u e => Heap.get?_push_of_some _ e) (Nat.le_refl _) ?_, rfl, q _ hf⟩
  exact ⟨z, us, 0, r, Heap.get?_push_size _ rfl⟩
end

/-! ### what a def promises -/
/-- a def's promise: the bound arguments in the parameters' order, the heap, the wanted end, the wanted exception -/
abbrev Sp := List V → Hp → VK → XK → Prop
/-- how an exception lies behind a call (file 08 gives it): the callers' frames, abstract heap and state ahead of the call, the wish, the exception, the state -/
abbrev CXT := List Env → Hp → Shared → XK → Value → Shared → Prop

/-- the state at a call -/
structure Env0 (P : Program) (w : World) (K : PySem.W.Frag) (mg : Str → Option Value) (base : Heap) (A : Around) (outer : List Env) (s : Shared) (H : Hp) : Prop where
  frames : A.frames = some outer
  mod : Mod K mg base
  bs : ∀ b o, base.get? b = some o → s.heap.get? b = some o ∧ H b = none
  bsz : base.objs.size ≤ s.heap.objs.size
  funs : s.heap.FunFrames base outer
  frf : ∀ b ∈ frs outer, H b = none
  hok : HOk P w H s.heap
  bare : AllBare s.gens
/-- a call's end -/
def CE (outer : List Env) (P : Program) (w : World) (H : Hp) (s : Shared) (Q : VK) (u : Value) (s' : Shared) : Prop :=
  ∃ v H', s'.os = s.os ∧ AllBare s'.gens ∧ Un (frs outer) [] H H' s.heap s'.heap ∧ HOk P w H' s'.heap ∧ RelV v u ∧ Q v H'
def CR (CX : CXT) (outer : List Env) (P : Program) (w : World) (H : Hp) (s : Shared) (Q : VK) (E : XK) (r : Result) (s' : Shared) : Prop :=
  match r with
  | .ok (.ret u) => CE outer P w H s Q u s'
  | .ok _ => False
  | .error e => CX outer H s E e s'
structure FnOk (P : Program) (w : World) (K : PySem.W.Frag) (mg : Str → Option Value) (base : Heap) (CX : CXT) (k : Nat) (f : Addr) (fd : FuncData) (ps : List Str) (sp : Sp) : Prop where
  len : ∀ vs H Q E, sp vs H Q E → vs.length = ps.length
  run : ∀ (A : Around) (outer : List Env) (s : Shared) (H : Hp) (args : Args) (us : List Value) (vs : List V) (Q : VK) (E : XK), Room k A → Env0 P w K mg base A outer s H → BindsTo s fd args (ps.zip us) → Vals vs us → sp vs H Q E →
    codeAny (model P w) A (.call (.ref f) args) (CR CX outer P w H s Q E) s
theorem FnOk.mono {P : Program} {w : World} {K : PySem.W.Frag} {mg : Str → Option Value} {base : Heap} {CX : CXT} {j k : Nat} {f : Addr} {fd : FuncData} {ps : List Str} {sp : Sp} (F : FnOk P w K mg base CX j f fd ps sp) (h : j ≤ k) :
    FnOk P w K mg base CX k f fd ps sp := ⟨F.len, fun A outer s H args us vs Q E hr => F.run A outer s H args us vs Q E (hr.mono h)⟩
/-- a weaker promise -/
theorem FnOk.imp {P : Program} {w : World} {K : PySem.W.Frag} {mg : Str → Option Value} {base : Heap} {CX : CXT} {k : Nat} {f : Addr} {fd : FuncData} {ps : List Str} {sp sp' : Sp} (F : FnOk P w K mg base CX k f fd ps sp)
    (h : ∀ vs H Q E, sp' vs H Q E → sp vs H Q E) : FnOk P w K mg base CX k f fd ps sp' :=
  ⟨fun vs H Q E q => F.len vs H Q E (h _ _ _ _ q), fun A outer s H args us vs Q E hr he hb hv hs => F.run A outer s H args us vs Q E hr he hb hv (h _ _ _ _ hs)⟩

theorem Env0.make {P : Program} {w : World} {K : PySem.W.Frag} {mg : Str → Option Value} {base : Heap} {A : Around} {outer : List Env} {s : Shared} {H : Hp} (e : Env0 P w K mg base A outer s H) (C : Addr) (us : List Value) (kw : List (Str × Value)) :
    Env0 P w K mg base (A.under (.builtin "type.__call__" ⟨.ref C :: us, kw⟩)) outer s H := ⟨by first | exact e.frames | (simpa [Around.under, Code.envs, Code.isFrame, pushEnvs] using e.frames), e.mod, e.bs, e.bsz, e.funs, e.frf, e.hok, e.bare⟩
theorem Env0.in1 {P : Program} {w : World} {K : PySem.W.Frag} {mg : Str → Option Value} {base : Heap} {A : Around} {outer : List Env} {s : Shared} {H : Hp} (e : Env0 P w K mg base A outer s H) :
    Env0 P w K mg base A.in1 outer s H := ⟨e.frames, e.mod, e.bs, e.bsz, e.funs, e.frf, e.hok, e.bare⟩

section
variable {X : Cx} {pins : List (Addr × Obj)} {σ : St} {H : Hp} {s s' : Shared}
/-- from a body: what a callee wants -/
theorem Inv.env0 (I : Inv X pins σ H s) : Env0 X.prog X.w X.K X.mg X.base X.A X.stack s H :=
  ⟨I.ok.frames, I.ok.mod, I.bs, Nat.le_trans I.ok.bsz I.sz, I.stack, I.stkFree, I.hok, I.bare⟩
/-- behind a call -/
theorem Inv.after {Q : VK} {u : Value} (I : Inv X pins σ H s) (h : CE X.stack X.prog X.w H s Q u s') : EP X pins σ Q u s' := by
  obtain ⟨v, H', os, bare, un, hok, r, q⟩ := h
  obtain ⟨hh, g, d, t, os'⟩ := s'
  obtain rfl : os' = s.os := os
  exact ⟨v, H', I.call (h' := hh) (g' := g) (d' := d) (t' := t) (ch := []) un hok bare (fun b z => absurd z (by simp)), r, q⟩
end

/-! ### calls -/
/-- f(..): the written arguments, then the defaults dvs; E: what is wanted of an exception -/
def tCall (sp : Sp) (dvs : List V) (E : XK) (t : TA) : TE := fun σ H Q => t σ H fun vs H1 => sp (vs ++ dvs) H1 Q E
/-- o.m(..) of an instance of the class at C -/
def tMeth (C : Addr) (m : Str) (sp : Sp) (dvs : List V) (E : XK) (ta : TE) (t : TA) : TE := fun σ H Q => ta σ H fun x H1 => ∃ a dx fs, x = .ref a ∧ H1 a = some (.ins C dx fs) ∧ fs.lookup m = none ∧
  t σ H1 fun vs H2 => sp (x :: (vs ++ dvs)) H2 Q E
/-- C(..): a new instance and its dict, then __init__ -/
def tMake (C : Addr) (sp : Sp) (dvs : List V) (E : XK) (t : TA) : TE := fun σ H Q => t σ H fun vs H1 => ∀ x dx, H1 x = none → H1 dx = none → dx ≠ x →
  sp (.ref x :: (vs ++ dvs)) (upd (upd H1 dx (.own x)) x (.ins C dx [])) (fun v H2 => v = .non ∧ Q (.ref x) H2) E

/-- how the parameters are bound: us the positional arguments, kw the keywords' values by name, ds the defaults that fill up -/
def Binds (K : PySem.W.Frag) (fd : FuncData) (ps : List Str) (ds : List Value) : Prop :=
  ∀ (s : Shared) (us : List Value), K.In s.heap → (us ++ ds).length = ps.length → BindsTo s fd ⟨us, []⟩ (ps.zip (us ++ ds))
/-- every parameter is given -/
theorem Binds.all {K : PySem.W.Frag} {fd : FuncData} {ps : List Str} (h : ∀ us : List Value, us.length = ps.length → bindArgs fd ⟨us, []⟩ = pure (ps.zip us)) : Binds K fd ps [] := fun s us _ hl => by
  rw [List.append_nil] at hl ⊢
  exact .of_eq (h us hl)

/-- an exception of a callee reaches what this body wants of exceptions -/
def Passes (CX : CXT) (X : Cx) (E : XK) : Prop := ∀ (pins : List (Addr × Obj)) (σ : St) (H : Hp) (s : Shared) (e : Value) (s' : Shared), Inv X pins σ H s → CX X.stack H s E e s' → X.xe e s'

section
variable {X : Cx} {CX : CXT} {k : Nat} {f C : Addr} {fd : FuncData} {ps : List Str} {sp : Sp} {dvs : List V} {ds : List Value} {E : XK} {x m : Str} {p pos apos : Pos} {e o : Expr} {es : List Expr} {ta : TE} {t : TA}

/-- the callee runs -/
theorem run_fn {pins : List (Addr × Obj)} {σ : St} {H : Hp} {s : Shared} {Q : VK} {us : List Value} {vs : List V} (F : FnOk X.prog X.w X.K X.mg X.base CX k f fd ps sp) (hr : Room k X.A) (hb : Binds X.K fd ps ds) (hd : Vals dvs ds) (hx : Passes CX X E)
    (I : Inv X pins σ H s) (r : Vals vs us) (h : sp (vs ++ dvs) H Q E) : wpAny (model X.prog X.w) X.A (call (.ref f) us) (EP X pins σ Q) X.xe s := by
  have r2 : Vals (vs ++ dvs) (us ++ ds) := r.append hd
  have hl : (us ++ ds).length = ps.length := by rw [← r2.length]; exact F.len _ _ _ _ h
  refine wpAny_call (codeAny_mono (F.run X.A X.stack s H ⟨us, []⟩ (us ++ ds) (vs ++ dvs) Q E hr I.env0 (hb s us I.kIn hl) r2 h) fun r s' hq => ?_)
  cases r with
  | error e => exact hx pins σ H s e s' I hq
  | ok fl =>
    cases fl with
    | ret u => exact I.after hq
    | next => exact False.elim hq
    | brk => exact False.elim hq
    | cont => exact False.elim hq

theorem pe_call (F : FnOk X.prog X.w X.K X.mg X.base CX k f fd ps sp) (hr : Room k X.A) (hg : Gl X x) (hm : X.mg x = some (.ref f)) (hk : PySem.W.keepIn X.K (.ref f) = true) (hb : Binds X.K fd ps ds) (hd : Vals dvs ds) (hx : Passes CX X E)
    (ha : PA X (e :: es) t) (hdb : (x == ("__debug__" : Str)) = false := by decide) (he : starEach (e :: es) X.env = (false, eval e X.env) :: starEach es X.env := by rfl) (hpl : (backTo pos (starEach es X.env)).any (·.1) = false := by rfl) :
    PE X (.Call (.Name x p) (e :: es) [] pos) (tCall sp dvs E t) := by
  intro pins s σ H Q I h
  refine wpAny_Call_Name_kw (ld_glob I hg hm ?_ hdb)
  refine PySem.W.callWith_K (h₀ := X.base) I.ok.mod.kin hk (thn (ha pos pins s σ H _ I h) fun us s1 ⟨vs, H1, I1, r, q⟩ => ⟨I1.kIn, ?_⟩) he hpl
  exact run_fn F hr hb hd hx I1 r q
theorem pe_call0 (F : FnOk X.prog X.w X.K X.mg X.base CX k f fd ps sp) (hr : Room k X.A) (hg : Gl X x) (hm : X.mg x = some (.ref f)) (hk : PySem.W.keepIn X.K (.ref f) = true) (hb : Binds X.K fd ps ds) (hd : Vals dvs ds) (hx : Passes CX X E)
    (hdb : (x == ("__debug__" : Str)) = false := by decide) : PE X (.Call (.Name x p) [] [] pos) (tCall sp dvs E tNil) := by
  intro pins s σ H Q I h
  refine wpAny_Call_Name_kw (ld_glob I hg hm ?_ hdb)
  exact PySem.W.callWith_K0 I.kIn hk (run_fn (us := []) F hr hb hd hx I .nil h)

/-- o.m(e, ..) -/
theorem pe_meth {pl : Sem Bool} (he : PE X o ta) (c : Cls X.K C) (hm : Meth X.K C m f) (F : FnOk X.prog X.w X.K X.mg X.base CX k f fd ps sp) (hr : Room k X.A) (hb : Binds X.K fd ps ds) (hd : Vals dvs ds) (hx : Passes CX X E) (ha : PA X (e :: es) t)
    (hst : starEach (e :: es) X.env = (false, eval e X.env) :: starEach es X.env := by rfl) (hpl : (backTo pos (starEach es X.env)).any (·.1) = false := by rfl)
    (ht : eval (.Call (.Attribute o m apos) (e :: es) [] pos) X.env = (do
      let ov ← eval o X.env
      standAt apos.atName
      let (f, first) ← holding [ov] (getMethod ov m pl)
      callWith pos f first (backTo pos (starEach (e :: es) X.env)) (backToKw pos (keywordEach [] X.env))) := by rfl) :
    PE X (.Call (.Attribute o m apos) (e :: es) [] pos) (tMeth C m sp dvs E ta t) := by
  intro pins s σ H Q I h
  refine PySem.W.methodCall_KW (pl := pl) (thn (he pins s σ H _ I h) fun u s1 ⟨x, H1, I1, rx, a, dx, fs, ex, ea, l, q⟩ => ?_) ht
  subst ex
  obtain rfl : u = Value.ref a := rx
  refine getmeth_ok I1 ea c hm l ?_
  refine PySem.W.callWith_K (first := [.ref a]) (h₀ := X.base) I.ok.mod.kin hm.kp (thn (ha pos pins s1 σ H1 _ I1 q) fun us s2 ⟨vs, H2, I2, r, q2⟩ => ⟨I2.kIn, ?_⟩) hst hpl
  exact run_fn (us := .ref a :: us) (vs := .ref a :: vs) F hr hb hd hx I2 (.cons rfl r) q2
/-- o.m() -/
theorem pe_meth0 {pl : Sem Bool} (he : PE X o ta) (c : Cls X.K C) (hm : Meth X.K C m f) (F : FnOk X.prog X.w X.K X.mg X.base CX k f fd ps sp) (hr : Room k X.A) (hb : Binds X.K fd ps ds) (hd : Vals dvs ds) (hx : Passes CX X E)
    (ht : eval (.Call (.Attribute o m apos) [] [] pos) X.env = (do
      let ov ← eval o X.env
      standAt apos.atName
      let (f, first) ← holding [ov] (getMethod ov m pl)
      callWith pos f first (backTo pos (starEach [] X.env)) (backToKw pos (keywordEach [] X.env))) := by rfl) :
    PE X (.Call (.Attribute o m apos) [] [] pos) (tMeth C m sp dvs E ta tNil) := by
  intro pins s σ H Q I h
  refine PySem.W.methodCall_KW (pl := pl) (thn (he pins s σ H _ I h) fun u s1 ⟨x, H1, I1, rx, a, dx, fs, ex, ea, l, q⟩ => ?_) ht
  subst ex
  obtain rfl : u = Value.ref a := rx
  refine getmeth_ok I1 ea c hm l ?_
  exact PySem.W.callWith_K0 (first := [.ref a]) I1.kIn hm.kp (run_fn (us := [.ref a]) (vs := [.ref a]) F hr hb hd hx I1 (.cons rfl .nil) q)

/-- what a class must have to be made -/
structure Mk (K : PySem.W.Frag) (C f : Addr) : Prop where
  makes : PySem.W.makesIn K C = true
  init : PySem.W.findIn K (.ref C) "__init__" = some (some (.ref f))
  fn : PySem.W.isFn K (.ref f) = true
  kp : PySem.W.keepIn K (.ref C) = true

theorem run_make {pins : List (Addr × Obj)} {σ : St} {H : Hp} {s : Shared} {Q : VK} {us : List Value} {vs : List V} (M : Mk X.K C f) (F : FnOk X.prog X.w X.K X.mg X.base CX k f fd ps sp) (hr : Room (k + 1) X.A) (hb : Binds X.K fd ps ds) (hd : Vals dvs ds)
    (hx : Passes CX X E) (I : Inv X pins σ H s) (r : Vals vs us)
    (h : ∀ x dx, H x = none → H dx = none → dx ≠ x → sp (.ref x :: (vs ++ dvs)) (upd (upd H dx (.own x)) x (.ins C dx [])) (fun v H2 => v = .non ∧ Q (.ref x) H2) E) :
    wpAny (model X.prog X.w) X.A (call (.ref C) us) (EP X pins σ Q) X.xe s := by
  have hq := h (s.heap.objs.size + 1) s.heap.objs.size (I.hok.fresh (Nat.le_succ _)) (I.hok.fresh (Nat.le_refl _)) (Nat.ne_of_lt (Nat.lt_succ_self _))
  have I2 := Inv.made (C := C) I
  have r2 : Vals (V.ref (s.heap.objs.size + 1) :: (vs ++ dvs)) (Value.ref (s.heap.objs.size + 1) :: (us ++ ds)) := .cons rfl (r.append hd)
  have hl : (Value.ref (s.heap.objs.size + 1) :: us ++ ds).length = ps.length := by
    have e := r2.length
    rw [F.len _ _ _ _ hq] at e
    exact e.symm
  refine wpAny_call (make_map (f := f) I.kIn M.makes M.init (beq_iff_eq.mp M.fn) (codeAny_mono (F.run _ X.stack _ _ ⟨Value.ref (s.heap.objs.size + 1) :: us, []⟩ (Value.ref (s.heap.objs.size + 1) :: (us ++ ds)) _ _ E (hr.make C us [])
    (I2.env0.make C us []) (hb _ (Value.ref (s.heap.objs.size + 1) :: us) I2.kIn hl) r2 hq) fun r s' hq' => ?_))
  cases r with
  | error e => exact hx pins σ _ _ e s' I2 hq'
  | ok fl =>
    cases fl with
    | ret u =>
      obtain ⟨v, H', I3, rv, ev, q3⟩ := I2.after hq'
      subst ev
      exact ⟨rv, ⟨V.ref (s.heap.objs.size + 1), H', I3, rfl, q3⟩⟩
    | next => exact False.elim hq'
    | brk => exact False.elim hq'
    | cont => exact False.elim hq'
theorem pe_make (M : Mk X.K C f) (F : FnOk X.prog X.w X.K X.mg X.base CX k f fd ps sp) (hr : Room (k + 1) X.A) (hg : Gl X x) (hm : X.mg x = some (.ref C)) (hb : Binds X.K fd ps ds) (hd : Vals dvs ds) (hx : Passes CX X E)
    (ha : PA X (e :: es) t) (hdb : (x == ("__debug__" : Str)) = false := by decide) (he : starEach (e :: es) X.env = (false, eval e X.env) :: starEach es X.env := by rfl) (hpl : (backTo pos (starEach es X.env)).any (·.1) = false := by rfl) :
    PE X (.Call (.Name x p) (e :: es) [] pos) (tMake C sp dvs E t) := by
  intro pins s σ H Q I h
  refine wpAny_Call_Name_kw (ld_glob I hg hm ?_ hdb)
  refine PySem.W.callWith_K (h₀ := X.base) I.ok.mod.kin M.kp (thn (ha pos pins s σ H _ I h) fun us s1 ⟨vs, H1, I1, r, q⟩ => ⟨I1.kIn, ?_⟩) he hpl
  exact run_make M F hr hb hd hx I1 r q
theorem pe_make0 (M : Mk X.K C f) (F : FnOk X.prog X.w X.K X.mg X.base CX k f fd ps sp) (hr : Room (k + 1) X.A) (hg : Gl X x) (hm : X.mg x = some (.ref C)) (hb : Binds X.K fd ps ds) (hd : Vals dvs ds) (hx : Passes CX X E)
    (hdb : (x == ("__debug__" : Str)) = false := by decide) : PE X (.Call (.Name x p) [] [] pos) (tMake C sp dvs E tNil) := by
  intro pins s σ H Q I h
  refine wpAny_Call_Name_kw (ld_glob I hg hm ?_ hdb)
  exact PySem.W.callWith_K0 I.kIn M.kp (run_make (us := []) M F hr hb hd hx I .nil h)
end

/-! ### keywords -/
/-- the values of the keywords, from the left -/
def PK (X : Cx) (kws : List Keyword) (t : TA) : Prop :=
  ∀ (pos : Pos) (pins : List (Addr × Obj)) (s : Shared) (σ : St) (H : Hp) (Q : List V → Hp → Prop), Inv X pins σ H s → t σ H Q → wpAny (model X.prog X.w) X.A (evalAll ((backToKw pos (keywordEach kws X.env)).map (·.2))) (AP X pins σ Q) X.xe s
section
variable {X : Cx} {CX : CXT} {k : Nat} {f C : Addr} {fd : FuncData} {ps ks : List Str} {sp : Sp} {E : XK} {x m : Str} {p pos apos kpos : Pos} {e o : Expr} {es : List Expr} {kws : List Keyword} {te ta : TE} {t tk : TA} {nm : Option Str}
theorem pk_nil : PK X [] tNil := fun _ _ _ _ H Q I h => wpAny_evalAll_nil ⟨[], H, I, .nil, h⟩
theorem pk_cons (ha : PE X e te) (hr : PK X kws t) : PK X (⟨nm, e, kpos⟩ :: kws) (tCons te t) := by
  intro pos pins s σ H Q I h
  show wpAny _ _ (evalAll ((do let v ← eval e X.env; standAt pos; pure v) :: (backToKw pos (keywordEach kws X.env)).map (·.2))) _ _ s
  refine wpAny_evalAll_cons (wpAny_bind (thn (ha pins s σ H _ I h) fun u s1 ⟨x, H1, I1, r1, q1⟩ => wpAny_bind (wpAny_standAt (wpAny_pure ?_))))
  exact thn (hr pos pins s1 σ H1 _ I1 q1) fun us s2 ⟨xs, H2, I2, r2, q2⟩ => ⟨x :: xs, H2, I2, .cons r1 r2, q2⟩

/-- how a call with keywords binds: g puts the positional values us and the keywords' values ws (names ks) in the parameters' order, defaults among them -/
structure KBinds (K : PySem.W.Frag) (fd : FuncData) (ps ks : List Str) (g : List Value → List Value → List Value) (gV : List V → List V → List V) : Prop where
  to : ∀ (s : Shared) (us ws : List Value), K.In s.heap → (g us ws).length = ps.length → BindsTo s fd ⟨us, ks.zip ws⟩ (ps.zip (g us ws))
  rel : ∀ {vs : List V} {us : List Value} {zs : List V} {ws : List Value}, Vals vs us → Vals zs ws → Vals (gV vs zs) (g us ws)
def tCallK (sp : Sp) (gV : List V → List V → List V) (E : XK) (t tk : TA) : TE := fun σ H Q => t σ H fun vs H1 => tk σ H1 fun zs H2 => sp (gV vs zs) H2 Q E
variable {g : List Value → List Value → List Value} {gV : List V → List V → List V}
theorem run_fnk {pins : List (Addr × Obj)} {σ : St} {H : Hp} {s : Shared} {Q : VK} {us ws : List Value} {vs zs : List V} (F : FnOk X.prog X.w X.K X.mg X.base CX k f fd ps sp) (hr : Room k X.A) (hb : KBinds X.K fd ps ks g gV) (hx : Passes CX X E)
    (I : Inv X pins σ H s) (r : Vals vs us) (rz : Vals zs ws) (h : sp (gV vs zs) H Q E) : wpAny (model X.prog X.w) X.A (call (.ref f) us (ks.zip ws)) (EP X pins σ Q) X.xe s := by
  have r2 := hb.rel r rz
  have hl : (g us ws).length = ps.length := by rw [← r2.length]; exact F.len _ _ _ _ h
  refine wpAny_call (codeAny_mono (F.run X.A X.stack s H ⟨us, ks.zip ws⟩ (g us ws) (gV vs zs) Q E hr I.env0 (hb.to s us ws I.kIn hl) r2 h) fun r s' hq => ?_)
  cases r with
  | error e => exact hx pins σ H s e s' I hq
  | ok fl =>
    cases fl with
    | ret u => exact I.after hq
    | next => exact False.elim hq
    | brk => exact False.elim hq
    | cont => exact False.elim hq
/-- f(e, .., k = v, ..) -/
theorem pe_callK (F : FnOk X.prog X.w X.K X.mg X.base CX k f fd ps sp) (hr : Room k X.A) (hg : Gl X x) (hm : X.mg x = some (.ref f)) (hk : PySem.W.keepIn X.K (.ref f) = true) (hb : KBinds X.K fd ps ks g gV) (hx : Passes CX X E)
    (ha : PA X (e :: es) t) (hkw : PK X kws tk) (hall : (backToKw pos (keywordEach kws X.env)).all (·.1.isSome) = true := by rfl) (hks : (backToKw pos (keywordEach kws X.env)).filterMap (·.1) = ks := by rfl)
    (hdb : (x == ("__debug__" : Str)) = false := by decide) (he : starEach (e :: es) X.env = (false, eval e X.env) :: starEach es X.env := by rfl)
    (hpl : ((backTo pos (starEach (e :: es) X.env)).any (·.1) || (backToKw pos (keywordEach kws X.env)).any (·.1.isNone)) = false := by rfl) :
    PE X (.Call (.Name x p) (e :: es) kws pos) (tCallK sp gV E t tk) := by
  intro pins s σ H Q I h
  refine wpAny_Call_Name_kw (ld_glob I hg hm ?_ hdb)
  refine PySem.W.callWith_KW (h₀ := X.base) I.ok.mod.kin hk hall (thn (ha pos pins s σ H _ I h) fun us s1 ⟨vs, H1, I1, r, q⟩ => ?_) hpl he
  refine thn (hkw pos pins s1 σ H1 _ I1 q) fun ws s2 ⟨zs, H2, I2, rz, q2⟩ => ⟨I2.kIn, ?_⟩
  rw [hks]
  exact run_fnk F hr hb hx I2 r rz q2
end

/-! ### a def's body keeps its promise -/
/-- names: the parameters first -/
structure FnScope (N P : List Str) (sc : Scope) : Prop where
  kind : sc.kind = .function
  co : sc.isCoroutine = false
  gen : sc.isGenerator = false
  nd : N.Nodup
  pre : N.take P.length = P
  par : ∀ x ∈ P, sc.names.lookup x = some .local ∨ sc.names.lookup x = some .cell
  nofree : ∀ y ∈ sc.names, y.2 ≠ .free

theorem bindL_out {kindOf : Str → Option NameKind} {x : Str} : ∀ {binds : List (Str × Value)} {m : Str → Option Value}, (∀ v, (x, v) ∉ binds) → bindL kindOf binds m x = m x
  | [], _, _ => rfl
  | (n, v) :: r, m, h => by
    unfold bindL
    rw [bindL_out fun w hw => h w (List.mem_cons_of_mem _ hw)]
    split
    · have : x ≠ n := by rintro rfl; exact h v List.mem_cons_self
      simp [this]
    · rfl
theorem bindC_out {kindOf : Str → Option NameKind} {x : Str} : ∀ {binds : List (Str × Value)} {m : Str → Option Value}, (∀ v, (x, v) ∉ binds) → bindC kindOf binds m x = m x
  | [], _, _ => rfl
  | (n, v) :: r, m, h => by
    unfold bindC
    rw [bindC_out fun w hw => h w (List.mem_cons_of_mem _ hw)]
    split
    · rfl
    · have : x ≠ n := by rintro rfl; exact h v List.mem_cons_self
      simp [this]
theorem bindL_get {kindOf : Str → Option NameKind} {x : Str} {v : Value} : ∀ {P : List Str} {vs : List Value} {i : Nat} {m : Str → Option Value}, P.Nodup → P[i]? = some x → vs[i]? = some v → kindOf x = some .local →
    bindL kindOf (P.zip vs) m x = some v
  | [], _, _, _, _, h, _, _ => by simp at h
  | _ :: _, [], _, _, _, _, h, _ => by simp at h
  | p :: P, w :: vs, 0, m, nd, h1, h2, hk => by
    simp at h1 h2; subst h1; subst h2
    show bindL kindOf ((p, w) :: P.zip vs) m p = _
    unfold bindL
    rw [bindL_out fun v hv => (List.nodup_cons.mp nd).1 (List.of_mem_zip hv).1, if_pos hk]
    simp
  | p :: P, w :: vs, i + 1, m, nd, h1, h2, hk => by
    show bindL kindOf ((p, w) :: P.zip vs) m x = _
    unfold bindL
    exact bindL_get (i := i) (List.nodup_cons.mp nd).2 (by simpa using h1) (by simpa using h2) hk
theorem bindC_get {kindOf : Str → Option NameKind} {x : Str} {v : Value} : ∀ {P : List Str} {vs : List Value} {i : Nat} {m : Str → Option Value}, P.Nodup → P[i]? = some x → vs[i]? = some v → kindOf x ≠ some .local →
    bindC kindOf (P.zip vs) m x = some v
  | [], _, _, _, _, h, _, _ => by simp at h
  | _ :: _, [], _, _, _, _, h, _ => by simp at h
  | p :: P, w :: vs, 0, m, nd, h1, h2, hk => by
    simp at h1 h2; subst h1; subst h2
    show bindC kindOf ((p, w) :: P.zip vs) m p = _
    unfold bindC
    rw [bindC_out fun v hv => (List.nodup_cons.mp nd).1 (List.of_mem_zip hv).1, if_neg hk]
    simp
  | p :: P, w :: vs, i + 1, m, nd, h1, h2, hk => by
    show bindC kindOf ((p, w) :: P.zip vs) m x = _
    unfold bindC
    exact bindC_get (i := i) (List.nodup_cons.mp nd).2 (by simpa using h1) (by simpa using h2) hk

/-- the names' values at the entry -/
def start (N : List Str) (vs : List V) : St := vs.map some ++ List.replicate (N.length - vs.length) none

/-- the context of a def's body, at its entry; an exception leaves the frame, then lies as CX says -/
def cxOf (CX : CXT) (P : Program) (w : World) (K : PySem.W.Frag) (mg : Str → Option Value) (base : Heap) (N : List Str) (qual : Str) (scope : Scope) (f : Addr) (cd : Value) (A : Around) (outer : List Env) (s : Shared) (H : Hp) (E : XK) : Cx where
  prog := P
  w := w
  K := K
  mg := mg
  base := base
  A := A.deeper (envOfC qual scope s.heap.objs.size f cd)
  N := N
  s₀ := s
  H₀ := H
  env := envOfC qual scope s.heap.objs.size f cd
  outer := outer
  stack := envOfC qual scope s.heap.objs.size f cd :: outer
  ex := []
  calm := true
  fn := fun _ => true
  pn := []
  xe := fun e s' => wpAny (model P w) (A.deeper (envOfC qual scope s.heap.objs.size f cd)) (leaving (envOfC qual scope s.heap.objs.size f cd) e) (fun _ s'' => CX outer H s E e s'') (fun e' s'' => CX outer H s E e' s'') s'

theorem cell_has {sc : Scope} {n : Nat} {x : Str} (h : sc.names.lookup x = some .cell) : ∃ c, (cellsFrom n sc.names []).lookup x = some c := by
  have q := PySem.W.cellsFrom_some sc.names n [] (.inl h)
  exact Option.isSome_iff_exists.mp q

theorem inv_start {CX : CXT} {P : Program} {w : World} {K : PySem.W.Frag} {mg : Str → Option Value} {base : Heap} {N ps : List Str} {qual : Str} {scope : Scope} {f : Addr} {cd : Value} {A : Around} {outer : List Env} {s s1 : Shared} {H : Hp} {E : XK} {us : List Value} {vs : List V}
    (S : FnScope N ps scope) (hd : A.handled = none) (e0 : Env0 P w K mg base A outer s H) (hl : vs.length = ps.length) (r : Vals vs us)
    (x : InCallC s s.heap.objs.size (bindL (envOfC qual scope s.heap.objs.size f cd).kindOf (ps.zip us) fun _ => none) (cellsFrom (s.heap.objs.size + 1) scope.names []) (bindC (envOfC qual scope s.heap.objs.size f cd).kindOf (ps.zip us) fun _ => none) s1) :
    Inv (cxOf CX P w K mg base N qual scope f cd A outer s H E) [] (start N vs) H s1 := by
  have hpl : ps.length ≤ N.length := by have := congrArg List.length S.pre; rw [List.length_take] at this; omega
  obtain ⟨h1, tk, rfl, hk⟩ := x.done
  have noA : ∀ b : Addr, b ∉ (cxOf CX P w K mg base N qual scope f cd A outer s H E).ex := fun b z => absurd (show b ∈ ([] : List Addr) from z) (by simp)
  refine ⟨⟨e0.mod, S.kind, rfl, rfl, Nat.le_refl _, fun y z c h1 h2 => ?_, fun y hy => ?_, fun y c _ h => ?_, fun _ => hd, Around.frames_deeper e0.frames, .inr ⟨rfl, rfl⟩, fun b z => absurd z (noA b), e0.bs, e0.bsz, fun b _ _ => noA b, fun b z => absurd z (noA b), e0.funs, e0.frf⟩,
    rfl, e0.bare, Un.kept hk, ⟨_, x.toInCall.ns, fun i y v h1 h2 h3 => ?_⟩, fun y c h => ⟨_, x.cell y c h⟩, e0.hok.fresh (Nat.le_refl _), fun y c h => ?_, fun p hp => absurd (show p ∈ ([] : List (Addr × Obj)) from hp) (by simp), e0.hok.kept hk, ?_⟩
  · exact name_of_addr x.apart (PySem.mem_of_lookup h1) (PySem.mem_of_lookup h2)
  · have hy : scope.names.lookup y = some .cell ∨ scope.names.lookup y = some .free := hy
    rcases hy with hy | hy
    · exact cell_has hy
    · exact absurd rfl (S.nofree _ (PySem.mem_of_lookup hy))
  · exact Nat.le_of_lt (x.above y c (PySem.mem_of_lookup h))
  · have hi : i < vs.length := by
      unfold start at h2
      by_cases hi : i < vs.length
      · exact hi
      · rw [List.getElem?_append_right (by simpa using hi)] at h2
        rw [List.getElem?_replicate] at h2
        split at h2 <;> cases h2
    have ha : vs[i]? = some v := by
      unfold start at h2
      rw [List.getElem?_append_left (by simpa using hi), List.getElem?_map] at h2
      cases e : vs[i]? with
      | none => rw [e] at h2; cases h2
      | some a => rw [e] at h2; cases h2; rfl
    obtain ⟨u, hu, rv⟩ := r.get ha
    have hp : ps[i]? = some y := by
      rw [← S.pre, List.getElem?_take_of_lt (by omega)]; exact h1
    have ndP : ps.Nodup := by rw [← S.pre]; exact S.nd.sublist (List.take_sublist _ _)
    refine ⟨u, rv, ?_⟩
    rcases S.par y (List.mem_of_getElem? hp) with k | k
    · exact .inl ⟨k, bindL_get ndP hp hu k⟩
    · obtain ⟨c, e⟩ := cell_has (n := s.heap.objs.size + 1) k
      refine .inr ⟨.inl k, c, e, ?_⟩
      have q := x.cell y c e
      rw [bindC_get ndP hp hu (by show scope.names.lookup y ≠ _; rw [k]; decide)] at q
      exact q
  · exact e0.hok.fresh (Nat.le_of_lt (x.above y c (PySem.mem_of_lookup h)))
  · unfold start
    show _ = N.length
    rw [List.length_append, List.length_map, List.length_replicate]
    omega

/-- THE RULE: a def (or a method) of the text, by its body. The body's reading t is chosen for each entry; it is run at the parameters' values -/
theorem fn_of {CX : CXT} {P : Program} {w : World} {K : PySem.W.Frag} {mg : Str → Option Value} {base : Heap} {k : Nat} {f : Addr} {name qual : Str} {params : Arguments} {body : List Stmt} {scope : Scope} {dV kV doc pm cdv ct oc : Value} {an od : Option Addr}
    {osl : Array (Option Value)} {N ps : List Str} {sp : Sp} (lk : K.lookup f = some ⟨oc, od, .func (PySem.W.fnOf name qual params body scope dV kV doc pm an cdv ct), osl⟩) (hcd : PySem.W.codeIn K cdv qual = true) (S : FnScope N ps scope)
    (len : ∀ vs H Q E, sp vs H Q E → vs.length = ps.length)
    (hbody : ∀ (A : Around) (outer : List Env) (s : Shared) (H : Hp) (vs : List V) (Q : VK) (E : XK), Room k (A.deeper (envOfC qual scope s.heap.objs.size f cdv)) → sp vs H Q E →
      ∃ t, PSs (cxOf CX P w K mg base N qual scope f cdv A outer s H E) body t ∧ t { nx := fun _ H' => Q .non H', rt := Q } (start N vs) H) :
    FnOk P w K mg base CX (k + 1) f (PySem.W.fnOf name qual params body scope dV kV doc pm an cdv ct) ps sp := by
  refine ⟨len, fun A outer s H args us vs Q E hr e0 hb r hsp => ?_⟩
  have hl := len _ _ _ _ hsp
  have KX : K.In s.heap := e0.mod.kin.keeps fun b o e => (e0.bs b o e).1
  have lim : s.heap.NoLimit := e0.mod.nolimit.keeps fun b o e => (e0.bs b o e).1
  have hkind : ∀ y ∈ ps.zip us, scope.names.lookup y.1 = some .local ∨ (scope.names.lookup y.1 = some .cell ∧ ((cellsFrom (s.heap.objs.size + 1) scope.names []).lookup y.1).isSome = true) := fun ⟨n, v⟩ hy => by
    rcases S.par n (List.of_mem_zip hy).1 with q | q
    · exact .inl q
    · exact .inr ⟨q, PySem.W.cellsFrom_some _ _ _ (.inl q)⟩
  refine codeAny_call_function hr.depth (KX _ _ lk) rfl S.co S.gen rfl (PySem.W.codeRec_of KX hcd) (hb _ _ _ _ ?_)
  refine wpAny_newFunctionEnv_cells S.kind hkind fun env he s1 x => ?_
  subst he
  refine ⟨lim.keeps x.toInCall.keep, codeAny_func ?_⟩
  obtain ⟨t, ht, hq⟩ := hbody A outer s H vs Q E (hr.deeper _) hsp
  have I : Inv (cxOf CX P w K mg base N qual scope f cdv A outer s H E) [] (start N vs) H s1 := inv_start S hr.hd e0 hl r x
  refine wpAny_mono (ht [] s1 (start N vs) H _ I hq) (fun fl s' hs => ?_) fun e s' hs => hs
  have fin : ∀ {σ' : St} {H' : Hp} {v : V} {u : Value}, Inv (cxOf CX P w K mg base N qual scope f cdv A outer s H E) [] σ' H' s' → RelV v u → Q v H' → CE outer P w H s Q u s' :=
    fun {σ' H' v u} J rv q => ⟨v, H', J.os, J.bare, J.base, J.hok, rv, q⟩
  cases fl with
  | ret u =>
    obtain ⟨v, σ', H', J, rv, q⟩ := hs
    exact fin J rv q
  | next =>
    obtain ⟨σ', H', J, q⟩ := hs
    exact fin (v := V.non) (u := Value.none) J rfl q
  | brk =>
    obtain ⟨_, _, _, q⟩ := hs
    exact False.elim q
  | cont =>
    obtain ⟨_, _, _, q⟩ := hs
    exact False.elim q
end L2

namespace L2
open PySem PySem.Spec PyProof.Rows
section
variable {X : Cx} {x : Str} {p pos : Pos} {e : Expr} {es : List Expr} {t : TA} {id T : String} {r : List V → Hp → VK → Prop}

def tCB (r : List V → Hp → VK → Prop) (t : TA) : TE := fun σ H Q => t σ H fun vs H1 => r vs H1 Q
/-- f(e, ..), f a built-in function -/
theorem pe_callB (hc : CallR X (.builtin id) r) (hg : Gl X x) (hm : X.mg x = none) (hv : bootBuiltins x = some (.builtin id)) (ha : PA X (e :: es) t) (hn : x ≠ "__name__" := by decide) (hdb : (x == ("__debug__" : Str)) = false := by decide)
    (he : starEach (e :: es) X.env = (false, eval e X.env) :: starEach es X.env := by rfl) (hpl : (backTo pos (starEach es X.env)).any (·.1) = false := by rfl) : PE X (.Call (.Name x p) (e :: es) [] pos) (tCB r t) := by
  intro pins s σ H Q I h
  refine wpAny_Call_Name_kw (ld_blt I hg hm hv ?_ hn hdb)
  exact PyProof.Rows.callWith_builtin1 (thn (ha pos pins s σ H _ I h) fun us s1 ⟨vs, H1, I1, r1, q1⟩ => hc pins s1 σ H1 vs us Q I1 r1 q1) he hpl
/-- T(e, ..), T a built-in type -/
theorem pe_callTy (hc : CallR X (.type T) r) (hg : Gl X x) (hm : X.mg x = none) (hv : bootBuiltins x = some (.type T)) (ha : PA X (e :: es) t) (hn : x ≠ "__name__" := by decide) (hdb : (x == ("__debug__" : Str)) = false := by decide)
    (he : starEach (e :: es) X.env = (false, eval e X.env) :: starEach es X.env := by rfl) (hpl : (backTo pos (starEach es X.env)).any (·.1) = false := by rfl) : PE X (.Call (.Name x p) (e :: es) [] pos) (tCB r t) := by
  intro pins s σ H Q I h
  refine wpAny_Call_Name_kw (ld_blt I hg hm hv ?_ hn hdb)
  exact PyProof.Rows.callWith_type1 (thn (ha pos pins s σ H _ I h) fun us s1 ⟨vs, H1, I1, r1, q1⟩ => hc pins s1 σ H1 vs us Q I1 r1 q1) he hpl
/-- T() -/
theorem pe_callTy0 (hc : CallR X (.type T) r) (hg : Gl X x) (hm : X.mg x = none) (hv : bootBuiltins x = some (.type T)) (hn : x ≠ "__name__" := by decide) (hdb : (x == ("__debug__" : Str)) = false := by decide) :
    PE X (.Call (.Name x p) [] [] pos) (tCB r tNil) := by
  intro pins s σ H Q I h
  refine wpAny_Call_Name_kw (ld_blt I hg hm hv ?_ hn hdb)
  exact PyProof.Rows.callWith_type0 (hc pins s σ H [] [] Q I .nil h)
end
end L2

namespace HT
open PySem PyProof.Rows

/-- t < u of tuples of ints -/
def lexLt : List Int → List Int → Bool
  | [], [] => false
  | [], _ :: _ => true
  | _ :: _, [] => false
  | x :: xs, y :: ys => if x = y then lexLt xs ys else decide (x < y)
theorem lexLt_cons (x y : Int) (xs ys : List Int) : lexLt (x :: xs) (y :: ys) = if x = y then lexLt xs ys else decide (x < y) := rfl
theorem lexLt_nil_nil : lexLt [] [] = false := rfl
theorem lexLt_nil_cons (y : Int) (ys : List Int) : lexLt [] (y :: ys) = true := rfl
theorem lexLt_cons_nil (x : Int) (xs : List Int) : lexLt (x :: xs) [] = false := rfl

theorem eqAt_int (A : Around) (s : Shared) (a : Int) (t : Tok) (c : Int) (u : Tok) : ∃ e, SeqAt.EqAt A s (.int a t) (.int c u) e ∧ (e = true ↔ a = c) :=
  ⟨(a == c), SeqAt.EqAt.int_int a t c u, by simp⟩
theorem rcLt_int (A : Around) (s : Shared) (a : Int) (t : Tok) (c : Int) (u : Tok) (prog : Program) (w : World) (E : Value → Shared → Prop) (Q : Value → Shared → Prop) (h : Q (.bool (decide (a < c))) s) :
    wpAny (model prog w) A (richCompare .Lt (.int a t) (.int c u)) Q E s :=
  (PyProof.Rows.lt_int h : wpAny (model prog w) A (compareOp .Lt (.int a t) (.int c u)) Q E s)

section
open PySem.SeqAt
open PySem.AutoSeq1 (wpAny_loadPart')
open PySem.MeetsSeq PySem.MeetsSeq2 PySem.MeetsSeq3

theorem tuple_lt_ints (l b : Addr) (items items2 : Array Value) (n n2 : Nat) (dd dd2 : Option Addr) (sl sl2 : Array (Option Value)) (ns ms : List Int) (hi : IntsAre items.toList ns) (hj : IntsAre items2.toList ms) :
    Meets (Builtin.«tuple.__lt__» ⟨[.ref l, .ref b], []⟩)
      (fun _ R s => s.heap.get? l = some { cls := .type "tuple", dict := dd, data := .seq items n, slots := sl } ∧ s.heap.get? b = some { cls := .type "tuple", dict := dd2, data := .seq items2 n2, slots := sl2 } ∧
        R (.ok (.ret (.bool (lexLt ns ms)))) s) :=
  .of_wp fun prog w A R s h => by
    obtain ⟨hp, g, d, tk, os⟩ := s; obtain ⟨hl, hb, h⟩ := h
    have f2 := AutoSeq1.sub_tuple_tuple
    have z1 : items.size = ns.length := by rw [← hi.length]; simp
    have z2 : items2.size = ms.length := by rw [← hj.length]; simp
    wp_walk using wpAny_loadPart' hl, wpAny_loadPart' hb, wpAny_forIn_list _ (fun rest b s' => b.1 = none ∧ s' = ⟨hp, g, d, tk, os⟩ ∧ ∃ (vs ws : List Value) (ns' ms' : List Int), rest = vs.zip ws ∧
      IntsAre vs ns' ∧ IntsAre ws ms' ∧ ns'.length + items2.size = ms'.length + items.size ∧ R (.ok (.ret (.bool (lexLt ns' ms')))) ⟨hp, g, d, tk, os⟩) _
    case turn =>
      rintro ⟨y, x⟩ rest b s' ⟨hb', rfl, vs, ws, ns', ms', hz, hvi, hwi, hlen, hR⟩
      cases hvi with
      | nil => rw [List.zip_nil_left] at hz; cases hz
      | cons a t hvi' =>
        cases hwi with
        | nil => rw [List.zip_nil_right] at hz; cases hz
        | cons c u hwi' =>
          rw [List.zip_cons_cons] at hz
          injection hz with hyx hrest
          injection hyx with hy hx
          subst hy hx
          rw [lexLt_cons] at hR
          simp only [List.length_cons] at hlen
          obtain ⟨e, he, hiff⟩ := eqAt_int A.in1 ⟨hp, g, d, tk, os⟩ a t c u
          refine wpAny_bind (he prog w _ _ ?_)
          cases e with
          | true =>
            rw [if_pos (hiff.mp rfl)] at hR
            wp_walk
            exact ⟨rfl, rfl, _, _, _, _, hrest, hvi', hwi', by omega, hR⟩
          | false =>
            rw [if_neg (fun q => absurd (hiff.mpr q) Bool.false_ne_true)] at hR
            have hri := rcLt_int A.in1 ⟨hp, g, d, tk, os⟩ a t c u prog w
            wp_walk using hri
            exact ⟨_, rfl, by simpa using hR⟩
    case fin =>
      rintro ⟨b1, b2⟩ s' ⟨hb', rfl, vs, ws, ns', ms', hz, hvi, hwi, hlen, hR⟩
      simp only at hb'
      subst hb'
      have hv : lexLt ns' ms' = decide (items.size < items2.size) := by
        cases hvi with
        | nil =>
          cases hwi with
          | nil =>
            simp only [List.length_nil] at hlen
            rw [lexLt_nil_nil]
            exact (decide_eq_false (by omega)).symm
          | cons c u hw =>
            simp only [List.length_nil, List.length_cons] at hlen
            rw [lexLt_nil_cons]
            exact (decide_eq_true (by omega)).symm
        | cons a t hv =>
          cases hwi with
          | nil =>
            simp only [List.length_nil, List.length_cons] at hlen
            rw [lexLt_cons_nil]
            exact (decide_eq_false (by omega)).symm
          | cons c u hw =>
            rw [List.zip_cons_cons] at hz
            cases hz
      rw [hv] at hR
      wp_walk
      exact ⟨_, rfl, by simpa [Builtin.Tuple.tupleCompareSizes] using hR⟩
    case h =>
      exact ⟨rfl, rfl, items.toList, items2.toList, ns, ms, rfl, hi, hj, by omega, h⟩
end

section
variable {prog : Program} {w : World} {A : Around} {E : Value → Shared → Prop} {s : Shared}

theorem lt_tupInts {l b : Addr} {items items2 : Array Value} {ns ms : List Int} {Q : Value → Shared → Prop} (hl : IsTup s.heap l items) (hb : IsTup s.heap b items2) (hi : IntsAre items.toList ns) (hj : IntsAre items2.toList ms)
    (hu : A.units < cLine) (h : Q (.bool (lexLt ns ms)) s) : wpAny (model prog w) A (compareOp .Lt (.ref l) (.ref b)) Q E s := by
  obtain ⟨⟨cls, dd, data, sl⟩, ho, hc, n, hd⟩ := id hl
  obtain ⟨⟨cls2, dd2, data2, sl2⟩, ho2, hc2, n2, hd2⟩ := id hb
  simp only at hc hd hc2 hd2
  subst hc hd hc2 hd2
  exact richCompare_meets_room (op := .Lt) ⟨_, ho, rfl⟩ ⟨_, ho2, rfl⟩ PySem.F.slot_tuple_lt PySem.F.entry_tuple_lt (PySem.F.args_tuple_lt_2 _ _) (tuple_lt_ints l b items items2 n n2 dd dd2 sl sl2 ns ms hi hj)
    ⟨ho, ho2, show Value.bool (lexLt ns ms) ≠ Value.notImplemented ∧ Q (.bool (lexLt ns ms)) s from ⟨(fun x => nomatch x), h⟩⟩ hu

/-- t + u, t not empty -/
theorem cat_tup {t b : Addr} {vs ws : List Value} {Q : Value → Shared → Prop} (ht : IsTup s.heap t vs.toArray) (hb : IsTup s.heap b ws.toArray) (hv : vs ≠ [])
    (h1 : ws = [] → Q (.ref t) s) (h2 : ws ≠ [] → Q (.ref s.heap.objs.size) { s with heap := s.heap.push { cls := .type "tuple", data := .seq (vs ++ ws).toArray } })
    (hsz : vs.length + ws.length ≤ sizeLine) : wpAny (model prog w) A (binaryOp .Add (.ref t) (.ref b)) Q E s := by
  obtain ⟨⟨cls, dd, data, sl⟩, ho, hc, n, hd⟩ := id ht
  obtain ⟨⟨cls2, dd2, data2, sl2⟩, ho2, hc2, n2, hd2⟩ := id hb
  simp only at hc hd hc2 hd2
  subst hc hd hc2 hd2
  have e : vs.toArray ++ ws.toArray = (vs ++ ws).toArray := by simp
  by_cases hw : ws = []
  · exact concat_meets ⟨_, ho, rfl⟩ ⟨_, ho2, rfl⟩ noFill_tuple_add seq_tuple_add PySem.F.slot_tuple_add PySem.F.entry_tuple_add (PySem.F.args_tuple_add_2 _ _)
      (tuple_addW1 t b vs.toArray ws.toArray n n2 dd dd2 sl sl2 (by simpa using hv) (by simp [hw])) ⟨ho, ho2, h1 hw⟩
  · refine concat_meets ⟨_, ho, rfl⟩ ⟨_, ho2, rfl⟩ noFill_tuple_add seq_tuple_add PySem.F.slot_tuple_add PySem.F.entry_tuple_add (PySem.F.args_tuple_add_2 _ _)
      (tuple_addW2 t b vs.toArray ws.toArray n n2 dd dd2 sl sl2 (by simpa using hv) (by simpa using hw) (by rw [List.size_toArray, List.size_toArray]; exact hsz)) ⟨ho, ho2, ?_⟩
    rw [e]
    exact h2 hw

/-! ### t[a:b], not the whole -/
/-- a slice's bound as a place among n (d where it is left out) -/
def sIx (n d : Nat) : Option Int → Nat
  | none => d
  | some v => if v < 0 then (v + (n : Int)).toNat else min v.toNat n
theorem sIx_none (n d : Nat) : sIx n d none = d := rfl
theorem sIx_nat (n d k : Nat) : sIx n d (some (k : Int)) = min k n := by
  show (if (k : Int) < 0 then ((k : Int) + (n : Int)).toNat else min (k : Int).toNat n) = min k n
  rw [if_neg (by omega), Int.toNat_natCast]
theorem sIx_le (n d : Nat) (hd : d ≤ n) (o : Option Int) : sIx n d o ≤ n := by
  cases o with
  | none => exact hd
  | some v =>
    show (if v < 0 then (v + (n : Int)).toNat else min v.toNat n) ≤ n
    by_cases hv : v < 0
    · rw [if_pos hv]; omega
    · rw [if_neg hv]; exact Nat.min_le_right _ _
theorem clip_eq (v : Int) (n d : Nat) : (if v < 0 then max (v + (n : Int)) 0 else min v (n : Int)) = ((sIx n d (some v) : Nat) : Int) := by
  show (if v < 0 then max (v + (n : Int)) 0 else min v (n : Int)) = (((if v < 0 then (v + (n : Int)).toNat else min v.toNat n) : Nat) : Int)
  by_cases hv : v < 0
  · simp only [if_pos hv]; omega
  · simp only [if_neg hv]; omega
theorem adjust_gen (lo hi : Option Int) (n : Nat) : Builtin.Slice.sliceAdjust lo hi 1 (n : Int) = (((sIx n 0 lo : Nat) : Int), ((sIx n n hi : Nat) : Int)) := by
  have h1 : ¬ ((1 : Int) < 0) := by omega
  unfold Builtin.Slice.sliceAdjust
  simp only [h1, if_false]
  refine Prod.ext ?_ ?_
  · cases lo with
    | none => rfl
    | some v => exact clip_eq v n 0
  · cases hi with
    | none => rfl
    | some v => exact clip_eq v n n
theorem places_gen (i j : Nat) : Builtin.Slice.slicePlaces (i : Int) (j : Int) 1 = j - i := by
  unfold Builtin.Slice.slicePlaces
  have h1 : (1 : Int) > 0 := by omega
  simp only [h1, if_true, Int.ediv_one]
  split <;> omega
theorem slicePart_ {v : Value} {o : Option Int} {Q : Option Int → Shared → Prop} (p : IsPart v o) (h : Q o s) : wpAny (model prog w) A (Builtin.Slice.slicePartIndex v) Q E s := by
  cases p with
  | none => exact slicePart_none h
  | int i t => exact slicePart_int h
theorem sliceApplied_gen {sl : Addr} {vl vu : Value} {lo hi : Option Int} {n : Nat} {Q : Int × Int × Nat → Shared → Prop} (hs : s.heap.IsSliceOf sl vl vu .none) (pl : IsPart vl lo) (pu : IsPart vu hi)
    (h : Q (((sIx n 0 lo : Nat) : Int), 1, sIx n n hi - sIx n 0 lo) s) : wpAny (model prog w) A (Builtin.Slice.sliceApplied (.ref sl) (pure (n : Int))) Q E s := by
  obtain ⟨os, hos, hcs, hds⟩ := id hs
  unfold Builtin.Slice.sliceApplied Builtin.Slice.sliceFields
  refine wpAny_bind (wpAny_bind (wpAny_field hos hds (x := vl) rfl (wpAny_bind (wpAny_field hos hds (x := vu) rfl (wpAny_bind (wpAny_field hos hds (x := .none) rfl (wpAny_pure ?_)))))))
  refine wpAny_bind (slicePart_none ?_)
  show wpAny _ _ (if ((1 : Int) == 0) = true then _ else _) _ _ s
  rw [if_neg (by decide)]
  refine wpAny_bind (slicePart_ pl (wpAny_bind (slicePart_ pu (wpAny_bind (wpAny_pure ?_)))))
  show wpAny _ _ (match Builtin.Slice.sliceAdjust lo hi 1 (n : Int) with | (lo, hi) => pure (lo, (1 : Int), Builtin.Slice.slicePlaces lo hi 1)) _ _ s
  rw [adjust_gen lo hi n]
  show wpAny _ _ (pure (((sIx n 0 lo : Nat) : Int), (1 : Int), Builtin.Slice.slicePlaces ((sIx n 0 lo : Nat) : Int) ((sIx n n hi : Nat) : Int) 1)) _ _ s
  rw [places_gen]
  exact wpAny_pure h
theorem pick_gen (xs : Array Value) (i k : Nat) : ((List.range k).filterMap fun (m : Nat) => xs[((i : Int) + (m : Int) * 1).toNat]?).toArray = ((xs.toList.drop i).take k).toArray := by
  have e : (fun (m : Nat) => xs[((i : Int) + (m : Int) * 1).toNat]?) = fun m => xs[i + m]? := by
    funext m
    have : ((i : Int) + (m : Int) * 1).toNat = i + m := by omega
    rw [this]
  rw [e]
  have := pick_run xs i k
  rw [List.filterMap_map] at this
  have e2 : ((fun x => xs[x]?) ∘ fun x => i + x) = fun m => xs[i + m]? := rfl
  rw [e2] at this
  rw [this]

theorem getItem_tuple_cut {t sl : Addr} {items : Array Value} {vl vu : Value} {lo hi : Option Int} {Q : Value → Shared → Prop} (ht : IsTup s.heap t items) (hs : s.heap.IsSliceOf sl vl vu .none) (pl : IsPart vl lo) (pu : IsPart vu hi)
    (hw : ¬ (sIx items.size 0 lo = 0 ∧ sIx items.size items.size hi = items.size))
    (h : Q (.ref s.heap.objs.size) { s with heap := s.heap.push { cls := .type "tuple", data := .seq ((items.toList.drop (sIx items.size 0 lo)).take (sIx items.size items.size hi - sIx items.size 0 lo)).toArray } })
    (hsz : items.size ≤ sizeLine) : wpAny (model prog w) A (getItem (.ref t) (.ref sl)) Q E s := by
  have htake : sizeOk (.seq ((items.toList.drop (sIx items.size 0 lo)).take (sIx items.size items.size hi - sIx items.size 0 lo)).toArray) := by
    show ((items.toList.drop (sIx items.size 0 lo)).take (sIx items.size items.size hi - sIx items.size 0 lo)).toArray.size ≤ sizeLine
    rw [List.size_toArray, List.length_take, List.length_drop, Array.length_toList]
    omega
  have hj : sIx items.size items.size hi ≤ items.size := sIx_le _ _ (Nat.le_refl _) hi
  obtain ⟨os, hos, hcs, hds⟩ := id hs
  have hTs : s.TypeIs (.ref sl) "slice" := ⟨os, hos, hcs⟩
  unfold getItem
  try with_reducible refine wpAny_holding ?_
  first | refine wpAny_bind (wpAny_pure ?_) | skip
  refine wpAny_bind (wpAny_sequenceKey ht.typeIs (by decide) ?_)
  refine wpAny_bind (wpAny_callSpecial?_slot (name := Str.ofString "__getitem__") ht.typeIs PyProof.Rows.slot_tuple_getitem
    (wpAny_call_entry PyProof.Rows.slot_tuple_getitem ht.typeIs entry_tuple_getitem ?_ (args_tuple_getitem _ _)))
  show wpAny _ _ (Builtin.Tuple.tupleItemsOf (.ref t) >>= _) _ _ s
  refine wpAny_bind (tupleItemsOf_ ht ?_)
  refine wpAny_bind (wpAny_typeOf hTs ?_)
  rw [if_pos (by decide)]
  refine wpAny_bind (sliceApplied_gen hs pl pu ?_)
  have hno : ¬ ((((sIx items.size 0 lo : Nat) : Int) == 0 && (1 : Int) == 1 && (sIx items.size items.size hi - sIx items.size 0 lo) == items.size) = true) := by
    intro q
    rw [Bool.and_eq_true, Bool.and_eq_true] at q
    have q1 : ((sIx items.size 0 lo : Nat) : Int) = 0 := eq_of_beq q.1.1
    have q2 : sIx items.size items.size hi - sIx items.size 0 lo = items.size := eq_of_beq q.2
    exact hw ⟨by omega, by omega⟩
  show wpAny _ _ (if (((sIx items.size 0 lo : Nat) : Int) == 0 && (1 : Int) == 1 && (sIx items.size items.size hi - sIx items.size 0 lo) == items.size) = true then _ else _) _ _ s
  rw [if_neg hno, pick_gen]
  first
    | exact wpAny_bind (m := Builtin.Tuple.tupleExact _) (wpAny_newObj_type (wpAny_pure ⟨_, rfl, wpAny_pure h⟩) htake)
    | exact wpAny_bind (m := Builtin.Tuple.tupleExact _) (wpAny_newObj_type (wpAny_bind (wpAny_pure (wpAny_pure ⟨_, rfl, wpAny_pure h⟩))) htake)
    | exact wpAny_bind (wpAny_bind (m := Builtin.Tuple.tupleExact _) (wpAny_newObj_type (wpAny_pure (wpAny_pure ⟨_, rfl, wpAny_pure h⟩)) htake))
    | exact wpAny_bind (wpAny_bind (m := Builtin.Tuple.tupleExact _) (wpAny_newObj_type (wpAny_pure ⟨_, rfl, wpAny_pure h⟩) htake))
end
end HT

namespace L2
open PySem PySem.Spec PyProof.Rows

/-! ### the parts of a slice -/
abbrev TO := St → Hp → (Option Int → Hp → Prop) → Prop
/-- a slice's part (left out, or an int) -/
def PO (X : Cx) (e : Option Expr) (t : TO) : Prop :=
  ∀ (pins : List (Addr × Obj)) (s : Shared) (σ : St) (H : Hp) (Q : Option Int → Hp → Prop), Inv X pins σ H s → t σ H Q →
    wpAny (model X.prog X.w) X.A (evalPart e X.env) (fun u s' => ∃ o H', Inv X pins σ H' s' ∧ IsPart u o ∧ Q o H') X.xe s
def tNoPart : TO := fun _ H Q => Q none H
def tPart (t : TE) : TO := fun σ H Q => t σ H fun x H1 => ∃ i, x = .int i ∧ Q (some i) H1

theorem intsAre_of {ns : List Int} : ∀ {us : List Value}, Vals (ns.map V.int) us → IntsAre us ns := by
  induction ns with
  | nil => intro us r; rw [List.map_nil] at r; cases r; exact .nil
  | cons n ns ih =>
    intro us r
    rw [List.map_cons] at r
    cases r with
    | cons r1 r2 =>
      obtain ⟨t, e⟩ := r1
      subst e
      exact .cons n t (ih r2)

section
variable {X : Cx} {e : Expr} {te : TE} {lo hi : Option Expr} {tl th : TO} {pos p2 : Pos}

theorem po_none : PO X none tNoPart := by
  intro pins s σ H Q I h
  rw [evalPart_none]
  exact wpAny_pure ⟨none, H, I, .none, h⟩
theorem po_some (h : PE X e te) : PO X (some e) (tPart te) := by
  intro pins s σ H Q I hw
  rw [evalPart_some]
  refine thn (h pins s σ H _ I hw) fun u s1 ⟨x, H1, I1, r1, q1⟩ => ?_
  obtain ⟨i, rfl, q⟩ := q1
  obtain ⟨t, rfl⟩ := r1
  exact ⟨some i, H1, I1, .int i t, q⟩

/-- what a slice of a value is, by values: the slice object stands at sl -/
def SlR (X : Cx) (r : V → Option Int → Option Int → Hp → VK → Prop) : Prop :=
  ∀ (pins : List (Addr × Obj)) (s : Shared) (σ : St) (H : Hp) (x : V) (v vl vu : Value) (lo hi : Option Int) (sl : Addr) (Q : VK), Inv X pins σ H s → RelV x v → s.heap.IsSliceOf sl vl vu .none → IsPart vl lo → IsPart vu hi → r x lo hi H Q →
    ∃ T id, typeLookup (.type T) "__getitem__" = pure (some (.builtin id)) ∧ s.TypeIs v T ∧ wpAny (model X.prog X.w) X.A (getItem v (.ref sl)) (EP X pins σ Q) X.xe s
theorem SlR.or {r r' : V → Option Int → Option Int → Hp → VK → Prop} (h : SlR X r) (h' : SlR X r') : SlR X (fun x lo hi H Q => r x lo hi H Q ∨ r' x lo hi H Q) := by
  intro pins s σ H x v vl vu lo hi sl Q I rx hs pl pu q
  rcases q with q | q
  · exact h pins s σ H x v vl vu lo hi sl Q I rx hs pl pu q
  · exact h' pins s σ H x v vl vu lo hi sl Q I rx hs pl pu q
def tSl (r : V → Option Int → Option Int → Hp → VK → Prop) (te : TE) (tl th : TO) : TE := fun σ H Q => te σ H fun x H1 => tl σ H1 fun l H2 => th σ H2 fun u H3 => r x l u H3 Q
/-- a[lo:hi], any a -/
theorem pe_slice {r : V → Option Int → Option Int → Hp → VK → Prop} (hr : SlR X r) (he : PE X e te) (hl : PO X lo tl) (hu : PO X hi th) : PE X (.Subscript e (.Slice lo hi none p2) pos) (tSl r te tl th) := by
  intro pins s σ H Q I h
  refine Subscript_ (thn (he pins s σ H _ I h) fun v s1 ⟨x, H1, I1, r1, q1⟩ => ?_)
  refine wpAny_Slice (thn (hl pins s1 σ H1 _ I1 q1) fun vl s2 ⟨l, H2, I2, pl, q2⟩ => thn (hu pins s2 σ H2 _ I2 q2) fun vu s3 ⟨u, H3, I3, pu, q3⟩ => ?_)
  rw [evalPart_none]
  refine wpAny_pure ?_
  have I4 : Inv X pins σ H3 { s3 with heap := s3.heap.push { cls := .type "slice", data := .fields #[vl, vu, .none] } } := I3.kept (t' := s3.toks) fun b ob q => Heap.get?_push_of_some _ q
  obtain ⟨T, id, hT, ht, hg⟩ := hr pins { s3 with heap := s3.heap.push { cls := .type "slice", data := .fields #[vl, vu, .none] } } σ H3 x v vl vu l u s3.heap.objs.size Q I4 r1 (Heap.IsSliceOf.new ..) pl pu q3
  show wpAny (model X.prog X.w) X.A (subscriptTail e (.Slice lo hi none p2) v (.ref s3.heap.objs.size)) (EP X pins σ Q) X.xe { s3 with heap := s3.heap.push { cls := .type "slice", data := .fields #[vl, vu, .none] } }
  exact tail_any (ops := [.ref s3.heap.objs.size, v]) ht hT hg (by with_unfolding_all rfl)

/-- the items of xs[lo:hi] -/
def cutV (xs : List V) (lo hi : Option Int) : List V := (xs.drop (HT.sIx xs.length 0 lo)).take (HT.sIx xs.length xs.length hi - HT.sIx xs.length 0 lo)
theorem cutV_length (xs : List V) (lo hi : Option Int) : (cutV xs lo hi).length ≤ xs.length := by
  unfold cutV
  rw [List.length_take, List.length_drop]
  omega
/-- t[lo:hi], not the whole of it (the whole would be t itself) -/
def rSlT (K : PySem.W.Frag) : V → Option Int → Option Int → Hp → VK → Prop := fun x lo hi H Q => ∃ a xs, x = .ref a ∧ SqT K H a xs ∧
  ¬ (HT.sIx xs.length 0 lo = 0 ∧ HT.sIx xs.length xs.length hi = xs.length) ∧ ∀ p, H p = none → Q (.ref p) (upd H p (.tup (cutV xs lo hi)))
theorem sl_tup : SlR X (rSlT X.K) := by
  intro pins s σ H x v vl vu lo hi sl Q I rx hs pl pu h
  obtain ⟨a, xs, rfl, hx, hw, q⟩ := h
  cases rx
  obtain ⟨its, r, ht, hz⟩ := I.tuple hx
  have hlen : its.toArray.size = xs.length := by rw [List.size_toArray]; exact r.length.symm
  refine ⟨"tuple", _, PyProof.Rows.slot_tuple_getitem.lookup, ht.typeIs, ?_⟩
  refine HT.getItem_tuple_cut ht hs pl pu (by rw [hlen]; exact hw) ?_ (by rw [hlen]; exact hz)
  rw [hlen]
  refine ⟨.ref s.heap.objs.size, _, I.laid (t' := s.toks) (o := .tup (cutV xs lo hi)) (fun b ob q => Heap.get?_push_of_some _ q) (Nat.le_refl _) ?_, rfl, q _ (I.hok.fresh (Nat.le_refl _))⟩
  exact ⟨Nat.le_trans (cutV_length xs lo hi) hz, _, (r.drop (HT.sIx xs.length 0 lo)).take (HT.sIx xs.length xs.length hi - HT.sIx xs.length 0 lo), IsTup.new _ _⟩

/-! ### t < u, t + u -/
def rLtT (K : PySem.W.Frag) : R2 := fun x y H Q => ∃ a b ns ms, x = .ref a ∧ y = .ref b ∧ SqT K H a (ns.map V.int) ∧ SqT K H b (ms.map V.int) ∧ Q (.bl (HT.lexLt ns ms)) H
theorem op_ltT (hu : X.A.units < cLine) : OpR X (compareOp .Lt) (rLtT X.K) := by
  intro pins s σ H x y v u Q I rx ry h
  obtain ⟨a, b, ns, ms, rfl, rfl, ha, hb, q⟩ := h
  cases rx
  cases ry
  obtain ⟨its, r1, p1, _⟩ := I.tuple ha
  obtain ⟨its2, r2, p2, _⟩ := I.tuple hb
  have i1 : IntsAre its.toArray.toList ns := intsAre_of r1
  have i2 : IntsAre its2.toArray.toList ms := intsAre_of r2
  exact HT.lt_tupInts p1 p2 i1 i2 hu ⟨.bl (HT.lexLt ns ms), H, I, rfl, q⟩
/-- t + u, t not empty: u empty gives t itself -/
def rCatT (K : PySem.W.Frag) : R2 := fun x y H Q => ∃ a b xs ys, x = .ref a ∧ y = .ref b ∧ SqT K H a xs ∧ SqT K H b ys ∧ xs ≠ [] ∧ xs.length + ys.length ≤ sizeLine ∧
  (ys = [] → Q (.ref a) H) ∧ (ys ≠ [] → ∀ p, H p = none → Q (.ref p) (upd H p (.tup (xs ++ ys))))
theorem Vals.nil_iff {xs : List V} {us : List Value} (r : Vals xs us) : us = [] ↔ xs = [] := by
  cases r with
  | nil => simp
  | cons _ _ => simp
theorem op_catT : OpR X (binaryOp .Add) (rCatT X.K) := by
  intro pins s σ H x y v u Q I rx ry h
  obtain ⟨a, b, xs, ys, rfl, rfl, ha, hb, hx, hz, q1, q2⟩ := h
  cases rx
  cases ry
  obtain ⟨its, r1, p1, _⟩ := I.tuple ha
  obtain ⟨its2, r2, p2, _⟩ := I.tuple hb
  refine HT.cat_tup p1 p2 (fun z => hx (r1.nil_iff.mp z)) (fun z => ⟨.ref a, H, I, rfl, q1 (r2.nil_iff.mp z)⟩) (fun z => ?_) (by rw [← r1.length, ← r2.length]; exact hz)
  refine ⟨.ref s.heap.objs.size, _, I.laid (t' := s.toks) (o := .tup (xs ++ ys)) (fun b ob q => Heap.get?_push_of_some _ q) (Nat.le_refl _) ?_, rfl, q2 (fun w => z (r2.nil_iff.mpr w)) _ (I.hok.fresh (Nat.le_refl _))⟩
  exact ⟨by rw [List.length_append]; exact hz, _, r1.append r2, IsTup.new _ _⟩
/-- tuple(t) -/
theorem call_tupleT : CallR X (.type "tuple") (fun xs H Q => ∃ a ys, xs = [.ref a] ∧ SqT X.K H a ys ∧ Q (.ref a) H) := by
  intro pins s σ H xs us Q I r h
  obtain ⟨a, ys, rfl, ha, q⟩ := h
  obtain ⟨u, rfl, ru⟩ := vals1 r
  cases ru
  obtain ⟨its, _, p1, _⟩ := I.tuple ha
  exact call_tuple_same (items := its.toArray) p1 ⟨.ref a, H, I, rfl, q⟩
end
end L2

namespace L2
open PySem PySem.Spec PyProof.Rows

/-! ### places -/
/-- the place that an index of any sign means -/
def ixN (n : Nat) (i : Int) : Option Nat := if 0 ≤ i then (if i < n then some i.toNat else none) else if -(n : Int) ≤ i then some (i + n).toNat else none
def atI {α : Type} (xs : List α) (i : Int) : Option α := (ixN xs.length i).bind fun j => xs[j]?
theorem ixN_seq {n : Nat} {i : Int} {j : Nat} (h : ixN n i = some j) : seqIndex? i n = some j ∧ j < n ∧ -(n : Int) ≤ i ∧ i < n := by
  unfold ixN at h
  by_cases h0 : 0 ≤ i
  · rw [if_pos h0] at h
    by_cases h1 : i < n
    · rw [if_pos h1] at h
      have e : i.toNat = j := Option.some.inj h
      exact ⟨by rw [seqIndex_of h0 h1, e], by omega, by omega, h1⟩
    · rw [if_neg h1] at h; cases h
  · rw [if_neg h0] at h
    by_cases h1 : -(n : Int) ≤ i
    · rw [if_pos h1] at h
      have e : (i + n).toNat = j := Option.some.inj h
      exact ⟨by rw [seqIndex_neg (by omega) h1, e], by omega, h1, by omega⟩
    · rw [if_neg h1] at h; cases h
theorem atI_get {α : Type} {xs : List α} {i : Int} {v : α} (h : atI xs i = some v) : ∃ j, seqIndex? i xs.length = some j ∧ xs[j]? = some v ∧ j < xs.length ∧ -(xs.length : Int) ≤ i ∧ i < xs.length := by
  unfold atI at h
  cases e : ixN xs.length i with
  | none => rw [e] at h; cases h
  | some j =>
    rw [e] at h
    obtain ⟨h1, h2, h3, h4⟩ := ixN_seq e
    exact ⟨j, h1, h, h2, h3, h4⟩
theorem atI_nat {α : Type} {xs : List α} {j : Nat} {v : α} (h : xs[j]? = some v) : atI xs (j : Int) = some v := by
  have hj : j < xs.length := (List.getElem?_eq_some_iff.mp h).1
  have e : ixN xs.length (j : Int) = some j := by
    unfold ixN
    rw [if_pos (by omega), if_pos (by omega)]; simp
  unfold atI; rw [e]; exact h
theorem atI_last {α : Type} (xs : List α) (v : α) : atI (xs ++ [v]) (-1) = some v := by
  have hl : (xs ++ [v]).length = xs.length + 1 := by simp
  have e : ixN (xs ++ [v]).length (-1) = some xs.length := by
    unfold ixN
    rw [hl, if_neg (by decide), if_pos (by omega)]
    congr 1
    omega
  unfold atI
  rw [e]
  show (xs ++ [v])[xs.length]? = some v
  simp

/-! ### what may be subscripted -/
/-- what stands as an index of a plain subscript -/
def PlainIx (b : Expr) : Prop := ∀ o i, subscripted b false o i = operate [o, i] (getItem o i)
/-- a subscript by values -/
def IxR (X : Cx) (r : R2) : Prop :=
  ∀ (value slice : Expr) (pins : List (Addr × Obj)) (s : Shared) (σ : St) (H : Hp) (x y : V) (v u : Value) (Q : VK), Inv X pins σ H s → RelV x v → RelV y u → r x y H Q →
    subscripted slice false v u = operate [v, u] (getItem v u) → wpAny (model X.prog X.w) X.A (subscriptTail value slice v u) (EP X pins σ Q) X.xe s
/-- a call of a builtin's method by values: the receiver, the arguments -/
def MtR (X : Cx) (id : String) (r : V → List V → Hp → VK → Prop) : Prop :=
  ∀ (pins : List (Addr × Obj)) (s : Shared) (σ : St) (H : Hp) (x : V) (xs : List V) (v : Value) (us : List Value) (Q : VK), Inv X pins σ H s → RelV x v → Vals xs us → r x xs H Q →
    wpAny (model X.prog X.w) X.A (call (.builtin id) (v :: us)) (EP X pins σ Q) X.xe s
section
variable {X : Cx} {a b : Expr} {ta tb : TE} {pos : Pos}
theorem IxR.or {r r' : R2} (h : IxR X r) (h' : IxR X r') : IxR X (fun x y H Q => r x y H Q ∨ r' x y H Q) := by
  intro value slice pins s σ H x y v u Q I rx ry q hs
  rcases q with q | q
  · exact h value slice pins s σ H x y v u Q I rx ry q hs
  · exact h' value slice pins s σ H x y v u Q I rx ry q hs
theorem MtR.or {id : String} {r r' : V → List V → Hp → VK → Prop} (h : MtR X id r) (h' : MtR X id r') : MtR X id (fun x xs H Q => r x xs H Q ∨ r' x xs H Q) := by
  intro pins s σ H x xs v us Q I rx rs q
  rcases q with q | q
  · exact h pins s σ H x xs v us Q I rx rs q
  · exact h' pins s σ H x xs v us Q I rx rs q
/-- a[b] -/
theorem pe_ix {r : R2} (hr : IxR X r) (ha : PE X a ta) (hb : PE X b tb) (hs : PlainIx b) : PE X (.Subscript a b pos) (tOp r ta tb) := by
  intro pins s σ H Q I h
  exact Subscript_ (binT ha hb I h fun v u s2 x y H2 I2 rx ry q => hr a b pins s2 σ H2 x y v u Q I2 rx ry q (hs _ _))

def rIxL (K : PySem.W.Frag) : R2 := fun x y H Q => ∃ p xs i v, x = .ref p ∧ y = .int i ∧ SqL K H p xs ∧ atI xs i = some v ∧ Q v H
def rIxT (K : PySem.W.Frag) : R2 := fun x y H Q => ∃ p xs i v, x = .ref p ∧ y = .int i ∧ SqT K H p xs ∧ atI xs i = some v ∧ Q v H
def rIxS : R2 := fun x y H Q => ∃ z i c, x = .str z ∧ y = .int i ∧ z.length ≤ sizeLine ∧ atI z.cps.toList i = some c ∧ Q (.str ⟨#[c]⟩) H
theorem ix_list : IxR X (rIxL X.K) := by
  intro value slice pins s σ H x y v u Q I rx ry h hs
  obtain ⟨p, xs, i, z, rfl, rfl, hq, he, q⟩ := h
  cases rx
  obtain ⟨t, rfl⟩ := ry
  obtain ⟨its, r, pl, hz⟩ := I.list hq
  obtain ⟨j, h1, h2, h3, h4, h5⟩ := atI_get he
  obtain ⟨w, ew, rw'⟩ := r.get h2
  have hl := r.length
  have hn := line63
  have fin : EP X pins σ Q w s := ⟨z, H, I, rw', q⟩
  by_cases h0 : 0 ≤ i
  · have hj : i.toNat = j := by
      rw [seqIndex_of h0 h5] at h1
      exact Option.some.inj h1
    exact item_listR pl.isList h0 (by omega) (by rw [hj]; simpa using ew) fin hs
  · have hj : (i + (its.toArray.size : Int)).toNat = j := by
      rw [seqIndex_neg (by omega) h4] at h1
      rw [List.size_toArray, ← hl]
      exact Option.some.inj h1
    exact subscriptTail_builtinR (x := w) pl.isList.typeIs slot_list_getitem.lookup
      (wpAny_getItem_list_neg (Q := fun r s' => r = w ∧ EP X pins σ Q r s') pl.isList (by omega) (by rw [List.size_toArray] <;> omega) (by omega) (by rw [hj]; simpa using ew) ⟨rfl, fin⟩) hs
theorem ix_tup : IxR X (rIxT X.K) := by
  intro value slice pins s σ H x y v u Q I rx ry h hs
  obtain ⟨p, xs, i, z, rfl, rfl, hq, he, q⟩ := h
  cases rx
  obtain ⟨t, rfl⟩ := ry
  obtain ⟨its, r, pl, hz⟩ := I.tuple hq
  obtain ⟨j, h1, h2, h3, h4, h5⟩ := atI_get he
  obtain ⟨w, ew, rw'⟩ := r.get h2
  have hl := r.length
  have hn := line63
  have fin : EP X pins σ Q w s := ⟨z, H, I, rw', q⟩
  exact subscriptTail_builtinR (x := w) pl.typeIs slot_tuple_getitem.lookup
    (getItem_tuple (j := j) (Q := fun r s' => r = w ∧ EP X pins σ Q r s') pl (by omega) (by omega) (by rw [List.size_toArray, ← hl]; exact h1) (by simpa using ew) ⟨rfl, fin⟩) hs
theorem ix_str : IxR X rIxS := by
  intro value slice pins s σ H x y v u Q I rx ry h hs
  obtain ⟨z, i, c, rfl, rfl, hz, he, q⟩ := h
  obtain ⟨t, rfl⟩ := rx
  obtain ⟨t', rfl⟩ := ry
  obtain ⟨j, h1, h2, h3, h4, h5⟩ := atI_get he
  have hl : z.cps.toList.length = z.length := by simp [Str.length]
  rw [hl] at h1 h4 h5
  have hn := line63
  exact tail_any (typeIs_str s z t) slot_str_getitem.lookup (getItem_str (c := c) (by
    have e1 : decide (i < -(2 ^ 63 : Int)) = false := decide_eq_false (by omega)
    have e2 : decide (i ≥ 2 ^ 63) = false := decide_eq_false (by omega)
    rw [e1, e2, Bool.or_false]) (by rw [h1]; simpa using h2) ⟨.str ⟨#[c]⟩, H, I.tok _, ⟨_, rfl⟩, q⟩) hs
/-- list, tuple or str -/
def rIx (K : PySem.W.Frag) : R2 := fun x y H Q => rIxL K x y H Q ∨ rIxT K x y H Q ∨ rIxS x y H Q
theorem ix_seq : IxR X (rIx X.K) := ix_list.or (ix_tup.or ix_str)

/-! ### xs[i] = v, any sign -/
/-- the list's object behind a store -/
theorem mapSeq_set (its : List Value) (n j : Nat) (u : Value) : Obj.mapSeq (·.setIfInBounds j u) { cls := .type "list", data := .seq its.toArray n } = { cls := .type "list", data := .seq (its.set j u).toArray n } := by
  simp [Obj.mapSeq]
theorem Inv.lst {pins : List (Addr × Obj)} {σ : St} {H : Hp} {s : Shared} {p : Addr} {xs : List V} (I : Inv X pins σ H s) (h : H p = some (.lst xs)) :
    ∃ (its : List Value) (n : Nat), Vals xs its ∧ s.heap.get? p = some { cls := .type "list", data := .seq its.toArray n } ∧ xs.length ≤ sizeLine := by
  obtain ⟨z, its, n, r, e⟩ := I.hok p _ h
  exact ⟨its, n, r, e, z⟩
/-- the list at p is written by an update of its object -/
theorem Inv.lstUpd {pins : List (Addr × Obj)} {σ : St} {H : Hp} {s : Shared} {p : Addr} {xs ys : List V} {its its' : List Value} {n n' : Nat} {f : Obj → Obj} (I : Inv X pins σ H s) (h : H p = some (.lst xs))
    (ho : s.heap.get? p = some { cls := .type "list", data := .seq its.toArray n }) (hf : f { cls := .type "list", data := .seq its.toArray n } = { cls := .type "list", data := .seq its'.toArray n' }) (r : Vals ys its') (hz : ys.length ≤ sizeLine) (t : Nat) :
    Inv X pins σ (upd H p (.lst ys)) { s with heap := s.heap.update p f, toks := t } := by
  have e : (s.heap.update p f).get? p = some { cls := .type "list", data := .seq its'.toArray n' } := by
    rw [Heap.get?_update_self f ho (by rw [hf] <;> rfl), hf]
  refine I.write (x := p) (e := p) (by rw [h]; trivial) (.inl rfl) (fun b u hb q => (Heap.get?_update_other _ _ (Ne.symm hb)).trans q) ⟨_, e⟩ ?_
  exact ⟨hz, its', n', r, e⟩
def rSetL : V → V → V → Hp → (Hp → Prop) → Prop := fun o i v H Q => ∃ p xs k j, o = .ref p ∧ i = .int k ∧ H p = some (.lst xs) ∧ ixN xs.length k = some j ∧ Q (upd H p (.lst (xs.set j v)))
theorem set_list : PSet X rSetL := by
  intro pins s σ H o i v ov iv u Q I ro ri rv h
  obtain ⟨p, xs, k, j, rfl, rfl, hp, hj, q⟩ := h
  cases ro
  obtain ⟨t, rfl⟩ := ri
  obtain ⟨its, n, r, ho, hz⟩ := I.lst hp
  obtain ⟨h1, h2, h3, h4⟩ := ixN_seq hj
  have hl := r.length
  have hn := line63
  have I' : Inv X pins σ (upd H p (.lst (xs.set j v))) { s with heap := s.heap.update p (Obj.mapSeq (·.setIfInBounds j u)) } :=
    I.lstUpd hp ho (mapSeq_set its n j u) (r.set rv j) (by rw [List.length_set]; exact hz) s.toks
  by_cases h0 : 0 ≤ k
  · have hk : k.toNat = j := by
      rw [seqIndex_of h0 h4] at h1
      exact Option.some.inj h1
    exact PySem.W.ki_setAt ho h0 (by omega) (by rw [List.size_toArray, ← hl]; exact h4) (by rw [hk]; exact ⟨_, I', q⟩)
  · have hk : (k + (its.toArray.size : Int)).toNat = j := by
      rw [seqIndex_neg (by omega) h3] at h1
      rw [List.size_toArray, ← hl]
      exact Option.some.inj h1
    exact PySem.W.ki_setBack ho (by omega) (by rw [List.size_toArray, ← hl]; exact h3) (by omega) (by rw [hk]; exact ⟨_, I', q⟩)

/-! ### slices -/
theorem slice_bounds (lo hi : Option Int) (n : Nat) : (sliceBounds lo hi none n).1 = ((HT.sIx n 0 lo : Nat) : Int) ∧ (sliceBounds lo hi none n).2.1 = ((HT.sIx n n hi : Nat) : Int) ∧ (sliceBounds lo hi none n).2.2 = 1 := by
  refine ⟨?_, ?_, rfl⟩
  · cases lo with
    | none => simp [sliceBounds, HT.sIx]
    | some i =>
      simp only [sliceBounds, HT.sIx, Option.getD_none, show (1 : Int) > 0 by decide, if_true]
      by_cases h : i < 0
      · simp only [h, if_true] <;> omega
      · simp only [h, if_false] <;> omega
  · cases hi with
    | none => simp [sliceBounds, HT.sIx]
    | some i =>
      simp only [sliceBounds, HT.sIx, Option.getD_none, show (1 : Int) > 0 by decide, if_true]
      by_cases h : i < 0
      · simp only [h, if_true] <;> omega
      · simp only [h, if_false] <;> omega
theorem slicePick_cut (its : List Value) (lo hi : Option Int) : slicePick its.toArray lo hi none = ((its.drop (HT.sIx its.length 0 lo)).take (HT.sIx its.length its.length hi - HT.sIx its.length 0 lo)).toArray := by
  obtain ⟨h1, h2, h3⟩ := slice_bounds lo hi its.toArray.size
  unfold slicePick
  rw [h1, h2, h3]
  simp only [sliceRange_one, pick_run, List.size_toArray] <;> rfl
/-- xs[lo:hi] of a list: a new list -/
def rSlL (K : PySem.W.Frag) : V → Option Int → Option Int → Hp → VK → Prop := fun x lo hi H Q => ∃ a xs, x = .ref a ∧ SqL K H a xs ∧ ∀ p, H p = none → Q (.ref p) (upd H p (.lst (cutV xs lo hi)))
theorem sl_list : SlR X (rSlL X.K) := by
  intro pins s σ H x v vl vu lo hi sl Q I rx hs pl pu h
  obtain ⟨a, xs, rfl, hx, q⟩ := h
  cases rx
  obtain ⟨its, r, ht, hz⟩ := I.list hx
  have hlen := r.length
  refine ⟨"list", _, slot_list_getitem.lookup, ht.isList.typeIs, ?_⟩
  refine wpAny_getItem_list_slice ht.isList hs pl pu .none (by simp) ?_ (by rw [List.size_toArray] <;> omega)
  rw [slicePick_cut, ← hlen]
  refine ⟨.ref s.heap.objs.size, _, I.laid (t' := s.toks) (o := .lst (cutV xs lo hi)) (fun b ob q => Heap.get?_push_of_some _ q) (Nat.le_refl _) ?_, rfl, q _ (I.hok.fresh (Nat.le_refl _))⟩
  exact ⟨Nat.le_trans (cutV_length xs lo hi) hz, _, 0, (r.drop (HT.sIx xs.length 0 lo)).take (HT.sIx xs.length xs.length hi - HT.sIx xs.length 0 lo), Heap.get?_push_size _ rfl⟩

/-! ### in, not in: flat items -/
def flatV : V → Bool
  | .non => true
  | .bl _ => true
  | .int _ => true
  | .str _ => true
  | _ => false
/-- == of flat values -/
def eqV : V → V → Bool
  | .non, .non => true
  | .bl a, .bl b => a == b
  | .bl a, .int b => (if a then 1 else 0) == b
  | .int a, .bl b => a == (if b then 1 else 0)
  | .int a, .int b => a == b
  | .str a, .str b => a == b
  | _, _ => false
theorem eqAt_V {A : Around} {s : Shared} {y x : V} {u v : Value} (ry : RelV y u) (rx : RelV x v) (fy : flatV y = true) (fx : flatV x = true) : SeqAt.EqAt A s u v (eqV y x) := by
  cases y with
  | non =>
    cases ry
    cases x with
    | non => cases rx; exact SeqAt.EqAt.same _
    | bl b => cases rx; exact SeqAt.EqAt.none_bool b
    | int b => obtain ⟨t, rfl⟩ := rx; exact SeqAt.EqAt.none_int b t
    | str b => obtain ⟨t, rfl⟩ := rx; exact SeqAt.EqAt.none_str b t
    | _ => exact absurd (show false = true from fx) Bool.false_ne_true
  | bl a =>
    cases ry
    cases x with
    | non => cases rx; exact SeqAt.EqAt.bool_none a
    | bl b => cases rx; exact SeqAt.EqAt.bool_bool a b
    | int b => obtain ⟨t, rfl⟩ := rx; exact SeqAt.EqAt.bool_int a b t
    | str b => obtain ⟨t, rfl⟩ := rx; exact SeqAt.EqAt.bool_str a b t
    | _ => exact absurd (show false = true from fx) Bool.false_ne_true
  | int a =>
    obtain ⟨t', rfl⟩ := ry
    cases x with
    | non => cases rx; exact SeqAt.EqAt.int_none a t'
    | bl b => cases rx; exact SeqAt.EqAt.int_bool a t' b
    | int b => obtain ⟨t, rfl⟩ := rx; exact SeqAt.EqAt.int_int a t' b t
    | str b => obtain ⟨t, rfl⟩ := rx; exact SeqAt.EqAt.int_str a t' b t
    | _ => exact absurd (show false = true from fx) Bool.false_ne_true
  | str a =>
    obtain ⟨t', rfl⟩ := ry
    cases x with
    | non => cases rx; exact SeqAt.EqAt.str_none a t'
    | bl b => cases rx; exact SeqAt.EqAt.str_bool a t' b
    | int b => obtain ⟨t, rfl⟩ := rx; exact SeqAt.EqAt.str_int a t' b t
    | str b => obtain ⟨t, rfl⟩ := rx; exact SeqAt.EqAt.str_str a t' b t
    | _ => exact absurd (show false = true from fx) Bool.false_ne_true
  | _ => exact absurd (show false = true from fy) Bool.false_ne_true
/-- the items' answers, read off the values (a value's own answer does not lean on its token) -/
def eqU (x : V) (u : Value) : Bool := match u with
  | .none => eqV .non x
  | .bool b => eqV (.bl b) x
  | .int i _ => eqV (.int i) x
  | .str z _ => eqV (.str z) x
  | _ => false
theorem eqU_of {x y : V} {u : Value} (r : RelV y u) (f : flatV y = true) : eqU x u = eqV y x := by
  cases y with
  | non => cases r; rfl
  | bl b => cases r; rfl
  | int i => obtain ⟨t, rfl⟩ := r; rfl
  | str z => obtain ⟨t, rfl⟩ := r; rfl
  | _ => exact absurd (show false = true from f) Bool.false_ne_true
theorem any_eqU {x : V} : ∀ {xs : List V} {us : List Value}, Vals xs us → xs.all flatV = true → us.any (eqU x) = xs.any fun y => eqV y x
  | _, _, .nil, _ => rfl
  | y :: xs, u :: us, .cons r t, f => by
    rw [List.all_cons, Bool.and_eq_true] at f
    rw [List.any_cons, List.any_cons, eqU_of r f.1, any_eqU t f.2]
theorem mem_eqAt {A : Around} {s : Shared} {x : V} {v : Value} (rx : RelV x v) (fx : flatV x = true) : ∀ {xs : List V} {us : List Value}, Vals xs us → xs.all flatV = true → ∀ u ∈ us, SeqAt.EqAt A s u v (eqU x u)
  | _, _, .nil, _ => fun u hu => by cases hu
  | y :: xs, u :: us, .cons r t, f => fun u' hu => by
    rw [List.all_cons, Bool.and_eq_true] at f
    rcases List.mem_cons.mp hu with rfl | hu
    · rw [eqU_of r f.1]; exact eqAt_V r rx f.1 fx
    · exact mem_eqAt rx fx t f.2 u' hu
def inV (x : V) (xs : List V) : Bool := xs.any fun y => eqV y x
/-- x in a list or tuple of flat items -/
def rIn (K : PySem.W.Frag) (neg : Bool) : R2 := fun x y H Q => ∃ p xs, y = .ref p ∧ (SqL K H p xs ∨ SqT K H p xs) ∧ flatV x = true ∧ xs.all flatV = true ∧ Q (.bl (if neg then !inV x xs else inV x xs)) H
theorem op_in_seq : OpR X (compareOp .In) (rIn X.K false) := by
  intro pins s σ H x y v u Q I rx ry h
  obtain ⟨p, xs, rfl, hq, fx, fs, q⟩ := h
  cases ry
  rcases hq with hq | hq
  · obtain ⟨its, r, pl, hz⟩ := I.list hq
    refine SeqAt.in_listAt (eqU x) pl.isList (fun w hw => mem_eqAt rx fx r fs w (by simpa using hw)) ⟨.bl _, H, I, rfl, ?_⟩
    rw [show its.toArray.any (eqU x) = its.any (eqU x) by simp, any_eqU r fs]
    exact q
  · obtain ⟨its, r, pl, hz⟩ := I.tuple hq
    refine SeqAt.in_tupleAt (eqU x) pl (fun w hw => mem_eqAt rx fx r fs w (by simpa using hw)) ⟨.bl _, H, I, rfl, ?_⟩
    rw [show its.toArray.any (eqU x) = its.any (eqU x) by simp, any_eqU r fs]
    exact q
theorem op_notIn_seq : OpR X (compareOp .NotIn) (rIn X.K true) := by
  intro pins s σ H x y v u Q I rx ry h
  obtain ⟨p, xs, rfl, hq, fx, fs, q⟩ := h
  cases ry
  rcases hq with hq | hq
  · obtain ⟨its, r, pl, hz⟩ := I.list hq
    refine SeqAt.notIn_listAt (eqU x) pl.isList (fun w hw => mem_eqAt rx fx r fs w (by simpa using hw)) ⟨.bl _, H, I, rfl, ?_⟩
    rw [show its.toArray.any (eqU x) = its.any (eqU x) by simp, any_eqU r fs]
    exact q
  · obtain ⟨its, r, pl, hz⟩ := I.tuple hq
    refine SeqAt.notIn_tupleAt (eqU x) pl (fun w hw => mem_eqAt rx fx r fs w (by simpa using hw)) ⟨.bl _, H, I, rfl, ?_⟩
    rw [show its.toArray.any (eqU x) = its.any (eqU x) by simp, any_eqU r fs]
    exact q
theorem op_notIn_str : OpR X (compareOp .NotIn) (fun x y H Q => ∃ i j, x = .str i ∧ y = .str j ∧ Q (.bl (!(!(Builtin.Str.occurrences j i 0 j.length 1).isEmpty))) H) := by
  intro pins s σ H x y v u Q I rx ry h
  obtain ⟨i, j, rfl, rfl, q⟩ := h
  obtain ⟨t, rfl⟩ := rx
  obtain ⟨t', rfl⟩ := ry
  exact notIn_str ⟨.bl _, H, I, rfl, q⟩

/-! ### len, list(x), tuple(x) of any list or tuple that is read -/
theorem call_len_seq : CallR X (.builtin "len") (fun xs H Q => ∃ p ys, xs = [.ref p] ∧ (SqL X.K H p ys ∨ SqT X.K H p ys) ∧ Q (.int ys.length) H) := by
  intro pins s σ H xs us Q I r h
  obtain ⟨p, ys, rfl, hq, q⟩ := h
  obtain ⟨u, rfl, rx⟩ := vals1 r
  cases rx
  have hn := line63
  rcases hq with hq | hq
  · obtain ⟨its, r', pl, hz⟩ := I.list hq
    have hlen := r'.length
    exact Calls.call_len_list pl.isList (by simp only [List.size_toArray] <;> omega) ⟨.int ys.length, H, I.tok _, ⟨s.toks + 1, by rw [List.size_toArray, hlen]⟩, q⟩
  · obtain ⟨its, r', pl, hz⟩ := I.tuple hq
    have hlen := r'.length
    exact len_tuple pl (by simp only [List.size_toArray] <;> omega) ⟨.int ys.length, H, I.tok _, ⟨s.toks + 1, by rw [List.size_toArray, hlen]⟩, q⟩
theorem call_len_str : CallR X (.builtin "len") (fun xs H Q => ∃ z, xs = [.str z] ∧ z.length ≤ sizeLine ∧ Q (.int z.length) H) := by
  intro pins s σ H xs us Q I r h
  obtain ⟨z, rfl, hz, q⟩ := h
  obtain ⟨u, rfl, t, rfl⟩ := vals1 r
  have hn := line63
  exact len_str (by omega) ⟨.int z.length, H, I.tok _, ⟨_, rfl⟩, q⟩
theorem CallR.or {f : Value} {r r' : List V → Hp → VK → Prop} (h : CallR X f r) (h' : CallR X f r') : CallR X f (fun xs H Q => r xs H Q ∨ r' xs H Q) := by
  intro pins s σ H xs us Q I rs q
  rcases q with q | q
  · exact h pins s σ H xs us Q I rs q
  · exact h' pins s σ H xs us Q I rs q
theorem call_list_of : CallR X (.type "list") (fun xs H Q => ∃ p ys, xs = [.ref p] ∧ (SqL X.K H p ys ∨ SqT X.K H p ys) ∧ ∀ l, H l = none → Q (.ref l) (upd H l (.lst ys))) := by
  intro pins s σ H xs us Q I r h
  obtain ⟨p, ys, rfl, hq, q⟩ := h
  obtain ⟨u, rfl, rx⟩ := vals1 r
  cases rx
  have fin : ∀ (its : List Value), Vals ys its → ys.length ≤ sizeLine → ∀ (h' : Heap) (c' : Nat), (∀ b o', s.heap.get? b = some o' → h'.get? b = some o') →
      h'.get? s.heap.objs.size = some { cls := .type "list", dict := none, data := .seq its.toArray c', slots := #[] } → EP X pins σ Q (.ref s.heap.objs.size) { s with heap := h' } := fun its r' hz h' c' kp e =>
    ⟨.ref s.heap.objs.size, _, I.laid (t' := s.toks) kp (Nat.le_refl _) (show ObjOk X.prog X.w _ h' _ (.lst ys) from ⟨hz, its, c', r', e⟩), rfl, q _ (I.hok.fresh (Nat.le_refl _))⟩
  rcases hq with hq | hq
  · obtain ⟨its, r', pl, hz⟩ := I.list hq
    have hlen := r'.length
    obtain ⟨o, ho, hc, n, hd⟩ := pl.isList
    exact call_list_seq p (.inl rfl) ho hc hd (fun h' c' kp e => fin its r' hz h' c' kp e) (by simp only [List.size_toArray] <;> omega)
  · obtain ⟨its, r', pl, hz⟩ := I.tuple hq
    have hlen := r'.length
    obtain ⟨o, ho, hc, n, hd⟩ := pl
    exact call_list_seq p (.inr rfl) ho hc hd (fun h' c' kp e => fin its r' hz h' c' kp e) (by simp only [List.size_toArray] <;> omega)
theorem call_tuple_of : CallR X (.type "tuple") (fun xs H Q => ∃ p ys, xs = [.ref p] ∧ ((SqL X.K H p ys ∧ ∀ l, H l = none → Q (.ref l) (upd H l (.tup ys))) ∨ (SqT X.K H p ys ∧ Q (.ref p) H))) := by
  intro pins s σ H xs us Q I r h
  obtain ⟨p, ys, rfl, h⟩ := h
  obtain ⟨u, rfl, rx⟩ := vals1 r
  cases rx
  rcases h with ⟨hq, q⟩ | ⟨hq, q⟩
  · obtain ⟨its, r', pl, hz⟩ := I.list hq
    have hlen := r'.length
    refine call_tuple_list pl.isList (fun h' kp => ?_) (by simp only [List.size_toArray] <;> omega)
    have I1 : Inv X pins σ H { s with heap := h' } := I.kept (t' := s.toks) kp
    have I2 : Inv X pins σ (upd H h'.objs.size (.tup ys)) { s with heap := h'.push { cls := .type "tuple", data := .seq its.toArray } } :=
      I1.laid (t' := s.toks) (fun b o e => Heap.get?_push_of_some _ e) (Nat.le_refl _) (show ObjOk X.prog X.w _ _ _ (.tup ys) from ⟨hz, its, r', IsTup.new _ _⟩)
    exact ⟨.ref h'.objs.size, _, I2, rfl, q _ (I1.hok.fresh (Nat.le_refl _))⟩
  · obtain ⟨its, r', pl, hz⟩ := I.tuple hq
    exact call_tuple_same pl ⟨.ref p, H, I, rfl, q⟩

/-! ### the call of a builtin's method: o.m(..) -/
/-- the value is of that builtin type -/
def tyV (K : PySem.W.Frag) (T : String) (x : V) (H : Hp) : Prop := match x with
  | .str _ => T = "str"
  | .int _ => T = "int"
  | .ref p => (T = "list" ∧ ∃ xs, SqL K H p xs) ∨ (T = "tuple" ∧ ∃ o, K.lookup p = some o ∧ o.cls = .type "tuple" ∧ o.dict = none) ∨
      (T = "dict" ∧ ((∃ kvs, H p = some (.dK kvs)) ∨ ∃ kvs, H p = some (.dT kvs))) ∨ (T = "set" ∧ ∃ S n, H p = some (.set S n))
  | _ => False
theorem tyV_is {pins : List (Addr × Obj)} {σ : St} {H : Hp} {s : Shared} {T : String} {x : V} {v : Value} (I : Inv X pins σ H s) (r : RelV x v) (ty : tyV X.K T x H) :
    s.TypeIs v T ∧ ∀ a, v = .ref a → ∃ ob, s.heap.get? a = some ob ∧ ob.dict = none := by
  cases x with
  | str z =>
    obtain ⟨t, rfl⟩ := r
    cases (show T = "str" from ty)
    exact ⟨typeIs_str s z t, fun _ e => nomatch e⟩
  | int i =>
    obtain ⟨t, rfl⟩ := r
    cases (show T = "int" from ty)
    exact ⟨typeIs_int s i t, fun _ e => nomatch e⟩
  | ref p =>
    cases r
    rcases ty with ⟨rfl, xs, hq⟩ | ⟨rfl, o, hk, hc, hd⟩ | ⟨rfl, hk⟩ | ⟨rfl, S, n, hk⟩
    · obtain ⟨its, _, pl, _⟩ := I.list hq
      refine ⟨pl.isList.typeIs, fun a e => ?_⟩
      cases e
      obtain ⟨o, n, e, c, hd, _⟩ := pl
      exact ⟨o, e, hd⟩
    · refine ⟨⟨o, I.kIn p o hk, hc⟩, fun a e => ?_⟩
      cases e
      exact ⟨o, I.kIn _ o hk, hd⟩
    · have z : ∃ o, s.heap.get? p = some o ∧ o.ExactDict := by
        rcases hk with ⟨kvs, hk⟩ | ⟨kvs, hk⟩
        · obtain ⟨_, _, _, _, o, _, _, e, ex, _⟩ := I.hok p _ hk
          exact ⟨o, e, ex⟩
        · obtain ⟨_, _, _, _, o, _, _, e, ex, _⟩ := I.hok p _ hk
          exact ⟨o, e, ex⟩
      obtain ⟨o, e, ex⟩ := z
      refine ⟨⟨o, e, ex.1⟩, fun a e2 => ?_⟩
      cases e2
      exact ⟨o, e, ex.2.1⟩
    · obtain ⟨o, _, _, _, e, ex, _⟩ := I.hok p _ hk
      refine ⟨⟨o, e, ex.1⟩, fun a e2 => ?_⟩
      cases e2
      exact ⟨o, e, ex.2.1⟩
  | _ => exact False.elim ty
def tBM0 (K : PySem.W.Frag) (T : String) (r : V → List V → Hp → VK → Prop) (to : TE) : TE := fun σ H Q => to σ H fun x H1 => tyV K T x H1 ∧ r x [] H1 Q
def tBM (K : PySem.W.Frag) (T : String) (r : V → List V → Hp → VK → Prop) (to : TE) (t : TA) : TE := fun σ H Q => to σ H fun x H1 => tyV K T x H1 ∧ t σ H1 fun xs H2 => r x xs H2 Q
variable {o e : Expr} {es : List Expr} {to : TE} {t : TA} {name : Str} {apos cpos : Pos} {T id : String} {r : V → List V → Hp → VK → Prop}
theorem pe_bm0 (pa : PlainAttrs T) (slot : Slot T name id) (hty : typeOf (.builtin id) = pure (.type "method_descriptor")) (hm : MtR X id r) (ho : PE X o to)
    (hbase : attributeBase o name X.env (eval o X.env) = eval o X.env := by rfl) (hline : (apos.endLine == cpos.line) = true := by rfl) : PE X (.Call (.Attribute o name apos) [] [] cpos) (tBM0 X.K T r to) := by
  intro pins s σ H Q I h
  refine wpAny_Call_method0_late hbase hline (thn (ho pins s σ H _ I h) fun v s1 ⟨x, H1, I1, r1, ty, q1⟩ => ?_)
  obtain ⟨h1, h2⟩ := tyV_is I1 r1 ty
  exact ⟨T, id, pa, slot, hty, h1, h2, Calls.callWith_builtin rfl (PySem.evalArgs_none (hm pins s1 σ H1 x [] v [] Q I1 r1 .nil q1))⟩
theorem pe_bm (pa : PlainAttrs T) (slot : Slot T name id) (hty : typeOf (.builtin id) = pure (.type "method_descriptor")) (hm : MtR X id r) (ho : PE X o to) (ha : PA X (e :: es) t)
    (hbase : attributeBase o name X.env (eval o X.env) = eval o X.env := by rfl)
    (hfew : ((backTo cpos (starEach (e :: es) X.env)).all (fun x => !x.1) && (backToKw cpos (keywordEach [] X.env)).all (fun x => x.1.isSome)
      && decide ((e :: es).length + ([] : List Keyword).length + (if ([] : List Keyword).isEmpty then 0 else 1) < 30)) = true := by rfl)
    (hline : (apos.endLine == cpos.line) = true := by rfl) (hs : starEach (e :: es) X.env = (false, eval e X.env) :: starEach es X.env := by rfl) (hplain : (backTo cpos (starEach es X.env)).any (·.1) = false := by rfl) :
    PE X (.Call (.Attribute o name apos) (e :: es) [] cpos) (tBM X.K T r to t) := by
  intro pins s σ H Q I h
  refine wpAny_Call_method_late hbase hfew hline rfl (thn (ho pins s σ H _ I h) fun v s1 ⟨x, H1, I1, r1, ty, q1⟩ => ?_)
  obtain ⟨h1, h2⟩ := tyV_is I1 r1 ty
  refine ⟨T, id, pa, slot, hty, h1, h2, ?_⟩
  have hA := ha cpos pins s1 σ H1 _ I1 q1
  rw [hs] at hA ⊢
  refine Calls.callWith_builtin (by show (false || (backTo cpos (starEach es X.env)).any (·.1)) = false; rw [hplain] <;> rfl) (Calls.evalArgs_plain ?_)
  exact thn hA fun us s2 ⟨vs, H2, I2, r2, q2⟩ => hm pins s2 σ H2 x vs v us Q I2 r1 r2 q2
/- xs.append(e), list.index on a module's tuple .. are MtR facts of 06m -/
end
end L2

namespace L2
open PySem PySem.Spec PyProof.Rows

def MtM (X : Cx) (id : String) (r : V → List V → Hp → VK → Prop) : Prop :=
  ∀ (pins : List (Addr × Obj)) (s : Shared) (σ : St) (H : Hp) (x : V) (xs : List V) (v : Value) (us : List Value) (Q : VK), Inv X pins σ H s → RelV x v → Vals xs us → r x xs H Q →
    wpAny (model X.prog X.w) X.A (call (.builtin id) (v :: us)) (EP X pins σ Q) X.xe s

/-! ### lists of values -/
theorem Vals.one : ∀ {x : V} {us : List Value}, Vals [x] us → ∃ u, us = [u] ∧ RelV x u
  | _, _, .cons r .nil => ⟨_, rfl, r⟩
theorem Vals.two : ∀ {x y : V} {us : List Value}, Vals [x, y] us → ∃ u v, us = [u, v] ∧ RelV x u ∧ RelV y v
  | _, _, _, .cons r (.cons q .nil) => ⟨_, _, rfl, r, q⟩
theorem Vals.zero : ∀ {us : List Value}, Vals [] us → us = []
  | _, .nil => rfl
theorem Vals.dropLast {xs : List V} {us : List Value} (h : Vals xs us) : Vals xs.dropLast us.dropLast := by
  induction h with
  | nil => exact .nil
  | cons r t ih =>
    cases t with
    | nil => exact .nil
    | cons q t' => exact .cons r ih
theorem Vals.eraseIdx : ∀ {xs : List V} {us : List Value} (i : Nat), Vals xs us → Vals (xs.eraseIdx i) (us.eraseIdx i)
  | _, _, _, .nil => .nil
  | _, _, 0, .cons _ t => t
  | _, _, i + 1, .cons r t => .cons r (Vals.eraseIdx i t)
theorem Vals.reverse {xs : List V} {us : List Value} (h : Vals xs us) : Vals xs.reverse us.reverse := by
  induction h with
  | nil => exact .nil
  | cons r t ih => rw [List.reverse_cons, List.reverse_cons]; exact Vals.append ih (.cons r .nil)
theorem Vals.rep {xs : List V} {us : List Value} (h : Vals xs us) : ∀ k : Nat, Vals (List.replicate k xs).flatten (List.replicate k us).flatten
  | 0 => .nil
  | k + 1 => by
    rw [List.replicate_succ, List.replicate_succ, List.flatten_cons, List.flatten_cons]
    exact Vals.append h (Vals.rep h k)
theorem erase_last {α : Type} (l : List α) : l.eraseIdx (l.length - 1) = l.dropLast := by
  induction l with
  | nil => rfl
  | cons a r ih =>
    cases r with
    | nil => rfl
    | cons b r =>
      have e : (a :: b :: r).length - 1 = ((b :: r).length - 1) + 1 := by
        have h1 : (a :: b :: r).length = r.length + 2 := rfl
        have h2 : (b :: r).length = r.length + 1 := rfl
        omega
      rw [e, List.eraseIdx_cons_succ, ih]
      all_goals rfl
theorem len_erase {α : Type} : ∀ (l : List α) (i : Nat), (l.eraseIdx i).length ≤ l.length
  | [], _ => Nat.le_refl _
  | _ :: _, 0 => Nat.le_succ _
  | _ :: r, i + 1 => Nat.succ_le_succ (len_erase r i)
theorem foldl_rep (its : List Value) : ∀ (k : Nat) (acc : List Value),
    List.foldl (fun x1 x2 => x1 ++ x2) acc.toArray (List.replicate k its.toArray) = (acc ++ (List.replicate k its).flatten).toArray
  | 0, acc => by simp
  | k + 1, acc => by
    have e : acc.toArray ++ its.toArray = (acc ++ its).toArray := by simp
    have e2 : (acc ++ its) ++ (List.replicate k its).flatten = acc ++ (List.replicate (k + 1) its).flatten := by
      rw [List.replicate_succ, List.flatten_cons, List.append_assoc]
    rw [← e2, ← foldl_rep its k (acc ++ its), ← e, List.replicate_succ, List.foldl_cons]

section
variable {X : Cx} {pins : List (Addr × Obj)} {σ : St} {H : Hp} {s : Shared} {l b : Addr} {xs ys zs : List V}

/-! ### the two steps: a tracked list is rewritten, a new list is laid -/
theorem Inv.lset {its its' : List Value} {n : Nat} {f : Array Value → Array Value} {t' : Nat} (I : Inv X pins σ H s) (hH : H l = some (.lst xs))
    (e : s.heap.get? l = some { cls := .type "list", data := .seq its.toArray n }) (hf : f its.toArray = its'.toArray) (hv : Vals ys its') (hz : ys.length ≤ sizeLine) :
    Inv X pins σ (upd H l (.lst ys)) { s with heap := s.heap.update l (Obj.mapSeq f), toks := t' } := by
  have q := PySem.IsL.update e f
  rw [hf] at q
  refine I.write (x := l) (e := l) (by rw [hH]; exact trivial) (.inl rfl) (fun b' u hb hu => (Heap.get?_update_other s.heap (Obj.mapSeq f) (Ne.symm hb)).trans hu) ⟨_, q⟩ ?_
  exact ⟨hz, its', _, hv, q⟩
theorem Inv.lnew {its : List Value} {t' : Nat} (I : Inv X pins σ H s) (hv : Vals ys its) (hz : ys.length ≤ sizeLine) :
    Inv X pins σ (upd H s.heap.objs.size (.lst ys)) { s with heap := s.heap.push { cls := .type "list", data := .seq its.toArray }, toks := t' } :=
  I.laid (fun _ _ q => Heap.get?_push_of_some _ q) (Nat.le_refl _) ⟨hz, its, 0, hv, Heap.get?_push_size _ rfl⟩
theorem Inv.fresh (I : Inv X pins σ H s) : H s.heap.objs.size = none := I.hok.fresh (Nat.le_refl _)
theorem Inv.lstM (I : Inv X pins σ H s) (hH : H l = some (.lst xs)) : xs.length ≤ sizeLine ∧ ∃ (its : List Value) (n : Nat), Vals xs its ∧ xs.length = its.length ∧ s.heap.get? l = some { cls := .type "list", data := .seq its.toArray n } := by
  obtain ⟨z, its, n, r, e⟩ := I.hok l _ hH
  exact ⟨z, its, n, r, r.length, e⟩

theorem notLongL {n : Nat} (h : n ≤ sizeLine) : Builtin.List.listTooLong n = false := by
  unfold Builtin.List.listTooLong
  exact decide_eq_false (by omega)
end

section
variable {X : Cx}

/-! ### methods -/
def rAppend : V → List V → Hp → VK → Prop := fun x vs H Q => ∃ l xs y, x = .ref l ∧ vs = [y] ∧ H l = some (.lst xs) ∧ xs.length < sizeLine ∧ Q .non (upd H l (.lst (xs ++ [y])))
theorem mt_append : MtM X "list.append" rAppend := by
  intro pins s σ H x vs v us Q I rx rv h
  obtain ⟨l, xs, y, rfl, rfl, hH, hz, q⟩ := h
  cases rx
  obtain ⟨u, rfl, ru⟩ := rv.one
  obtain ⟨z, its, n, r, hl, e⟩ := I.lstM hH
  refine call_meets F.slot_list_append ⟨_, e, rfl⟩ F.entry_list_append (F.args_list_append_2 _ _) (PySem.list_append l its.toArray n u (by rw [List.size_toArray]; omega)) ⟨e, ?_⟩
  refine ⟨.non, _, I.lset (its' := its ++ [u]) hH e (by simp) (r.append (.cons ru .nil)) ?_, rfl, q⟩
  rw [List.length_append, List.length_singleton]
  omega

def rExtend : V → List V → Hp → VK → Prop := fun x vs H Q => ∃ l b xs zs, x = .ref l ∧ vs = [.ref b] ∧ H l = some (.lst xs) ∧ H b = some (.lst zs) ∧ xs.length + zs.length ≤ sizeLine ∧ Q .non (upd H l (.lst (xs ++ zs)))
theorem mt_extend : MtM X "list.extend" rExtend := by
  intro pins s σ H x vs v us Q I rx rv h
  obtain ⟨l, b, xs, zs, rfl, rfl, hH, hB, hz, q⟩ := h
  cases rx
  obtain ⟨u, rfl, ru⟩ := rv.one
  cases ru
  obtain ⟨z, its, n, r, hl, e⟩ := I.lstM hH
  obtain ⟨z2, its2, n2, r2, hl2, e2⟩ := I.lstM hB
  have hsz : its.toArray.size + its2.toArray.size ≤ sizeLine := by rw [List.size_toArray, List.size_toArray]; omega
  have hlong : ¬ (!its.toArray.isEmpty && Builtin.List.listTooLong (its.toArray.size + its2.toArray.size)) = true := by
    rw [notLongL hsz, Bool.and_false]
    exact Bool.false_ne_true
  refine call_meets F.slot_list_extend ⟨_, e, rfl⟩ F.entry_list_extend (F.args_list_extend_2 _ _)
    (AutoSeq1.list_extend_list_list_0 l its.toArray n b its2.toArray n2 hlong (by rw [List.size_toArray]; omega) (by omega)) ⟨e, e2, ?_⟩
  refine ⟨.non, _, I.lset (its' := its ++ its2) hH e (by simp) (r.append r2) ?_, rfl, q⟩
  rw [List.length_append]
  omega

def rPop : V → List V → Hp → VK → Prop := fun x vs H Q => ∃ l xs y, x = .ref l ∧ vs = [] ∧ H l = some (.lst xs) ∧ xs[xs.length - 1]? = some y ∧ Q y (upd H l (.lst xs.dropLast))
theorem mt_pop : MtM X "list.pop" rPop := by
  intro pins s σ H x vs v us Q I rx rv h
  obtain ⟨l, xs, y, rfl, rfl, hH, hy, q⟩ := h
  cases rx
  have hus := rv.zero
  subst hus
  obtain ⟨z, its, n, r, hl, e⟩ := I.lstM hH
  obtain ⟨u, hu, ru⟩ := r.get hy
  have hy' : its.toArray[its.toArray.size - 1]? = some u := by
    show its.toArray[its.length - 1]? = some u
    rw [← Array.getElem?_toList, ← hl]
    exact hu
  refine call_meets F.slot_list_pop ⟨_, e, rfl⟩ F.entry_list_pop (F.args_list_pop_1 _) (MeetsSeq.list_pop_last l its.toArray n u hy' (by rw [List.size_toArray]; omega)) ⟨e, ?_⟩
  refine ⟨y, _, I.lset (its' := its.dropLast) hH e ?_ r.dropLast ?_, ru, q⟩
  · show its.toArray.eraseIdxIfInBounds (its.toArray.size - 1) = its.dropLast.toArray
    rw [List.size_toArray, List.eraseIdxIfInBounds_toArray, erase_last]
  · rw [List.length_dropLast]
    omega

def rPopAt : V → List V → Hp → VK → Prop := fun x vs H Q => ∃ l xs i k y, x = .ref l ∧ vs = [.int i] ∧ H l = some (.lst xs) ∧ -(2 ^ 63) ≤ i ∧ i < 2 ^ 63 ∧ seqIndex? i xs.length = some k ∧ xs[k]? = some y ∧ Q y (upd H l (.lst (xs.eraseIdx k)))
theorem mt_popAt : MtM X "list.pop" rPopAt := by
  intro pins s σ H x vs v us Q I rx rv h
  obtain ⟨l, xs, i, k, y, rfl, rfl, hH, h1, h2, hk, hy, q⟩ := h
  cases rx
  obtain ⟨u, rfl, ru⟩ := rv.one
  obtain ⟨t, rfl⟩ := ru
  obtain ⟨z, its, n, r, hl, e⟩ := I.lstM hH
  obtain ⟨w, hw, rw'⟩ := r.get hy
  refine call_meets F.slot_list_pop ⟨_, e, rfl⟩ F.entry_list_pop (F.args_list_pop_2 _ _)
    (MeetsSeq.list_pop_at l its.toArray n i t k w (fitsIndex_both h1 h2) (by rw [List.size_toArray, ← hl]; exact hk) (by rw [← Array.getElem?_toList]; exact hw) (by rw [List.size_toArray]; omega)) ⟨e, ?_⟩
  refine ⟨y, _, I.lset (its' := its.eraseIdx k) hH e ?_ (r.eraseIdx k) ?_, rw', q⟩
  · show its.toArray.eraseIdxIfInBounds k = (its.eraseIdx k).toArray
    rw [List.eraseIdxIfInBounds_toArray]
  · have := len_erase xs k
    omega

def rReverse : V → List V → Hp → VK → Prop := fun x vs H Q => ∃ l xs, x = .ref l ∧ vs = [] ∧ H l = some (.lst xs) ∧ Q .non (upd H l (.lst xs.reverse))
theorem mt_reverse : MtM X "list.reverse" rReverse := by
  intro pins s σ H x vs v us Q I rx rv h
  obtain ⟨l, xs, rfl, rfl, hH, q⟩ := h
  cases rx
  have hus := rv.zero
  subst hus
  obtain ⟨z, its, n, r, hl, e⟩ := I.lstM hH
  refine call_meets F.slot_list_reverse ⟨_, e, rfl⟩ F.entry_list_reverse (F.args_list_reverse_1 _) (AutoSeq1.list_reverse_list_0 l its.toArray n (by rw [List.size_toArray]; omega)) ⟨e, ?_⟩
  refine ⟨.non, _, I.lset (its' := its.reverse) hH e (by simp) r.reverse ?_, rfl, q⟩
  rw [List.length_reverse]
  omega

def rClear : V → List V → Hp → VK → Prop := fun x vs H Q => ∃ l xs, x = .ref l ∧ vs = [] ∧ H l = some (.lst xs) ∧ Q .non (upd H l (.lst []))
theorem mt_clear : MtM X "list.clear" rClear := by
  intro pins s σ H x vs v us Q I rx rv h
  obtain ⟨l, xs, rfl, rfl, hH, q⟩ := h
  cases rx
  have hus := rv.zero
  subst hus
  obtain ⟨z, its, n, r, hl, e⟩ := I.lstM hH
  refine call_meets F.slot_list_clear ⟨_, e, rfl⟩ F.entry_list_clear (F.args_list_clear_1 _) (AutoSeq1.list_clear_list_0 l its.toArray n (by rw [List.size_toArray]; omega)) ⟨e, ?_⟩
  exact ⟨.non, _, I.lset (its' := []) (ys := []) hH e rfl .nil (Nat.zero_le _), rfl, q⟩

/-! ### list + list, list += list, list * int -/
def rCat : R2 := fun x y H Q => ∃ l b xs zs, x = .ref l ∧ y = .ref b ∧ H l = some (.lst xs) ∧ H b = some (.lst zs) ∧ xs.length + zs.length ≤ sizeLine ∧ ∀ p, H p = none → Q (.ref p) (upd H p (.lst (xs ++ zs)))
theorem op_cat : OpR X (binaryOp .Add) rCat := by
  intro pins s σ H x y v u Q I rx ry h
  obtain ⟨l, b, xs, zs, rfl, rfl, hH, hB, hz, q⟩ := h
  cases rx
  cases ry
  obtain ⟨z, its, n, r, hl, e⟩ := I.lstM hH
  obtain ⟨z2, its2, n2, r2, hl2, e2⟩ := I.lstM hB
  refine PySem.P.add_list e e2 ?_ (by rw [List.size_toArray, List.size_toArray]; omega)
  have ea : its.toArray ++ its2.toArray = (its ++ its2).toArray := by simp
  rw [ea]
  exact ⟨.ref _, _, I.lnew (t' := s.toks) (r.append r2) (by rw [List.length_append]; omega), rfl, q _ I.fresh⟩
/-- a list times an int (a negative one is nothing) -/
def rRep : R2 := fun x y H Q => ∃ l k xs, x = .ref l ∧ y = .int k ∧ H l = some (.lst xs) ∧ -(2 ^ 63) ≤ k ∧ k < 2 ^ 63 ∧ xs.length * k.toNat ≤ sizeLine ∧
  ∀ p, H p = none → Q (.ref p) (upd H p (.lst (List.replicate k.toNat xs).flatten))
theorem len_rep {α : Type} (xs : List α) (k : Nat) : (List.replicate k xs).flatten.length = k * xs.length := by
  induction k with
  | zero => simp
  | succ k ih => rw [List.replicate_succ, List.flatten_cons, List.length_append, ih, Nat.succ_mul, Nat.add_comm]
theorem op_rep : OpR X (binaryOp .Mult) rRep := by
  intro pins s σ H x y v u Q I rx ry h
  obtain ⟨l, k, xs, rfl, rfl, hH, h1, h2, hz, q⟩ := h
  cases rx
  obtain ⟨t, rfl⟩ := ry
  obtain ⟨z, its, n, r, hl, e⟩ := I.lstM hH
  have hlen : its.toArray.size * k.toNat ≤ sizeLine := by rw [List.size_toArray, ← hl]; exact hz
  have hcap : ¬ its.toArray.size * k.toNat > (2 ^ 63 - 1) / 8 := by
    have : (sizeLine : Nat) ≤ (2 ^ 63 - 1) / 8 := by decide
    omega
  have hfit : ¬ (!Builtin.List.listFitsIndex k) = true := by
    rw [fitsIndex_both h1 h2]
    exact Bool.false_ne_true
  have hlong : ¬ Builtin.List.listTooLong (its.toArray.size * k.toNat) = true := by
    rw [notLongL hlen]
    exact Bool.false_ne_true
  have hnew : List.foldl (fun x1 x2 => x1 ++ x2) #[] (List.replicate (if its.toArray.isEmpty = true then 0 else k.toNat) its.toArray) = (List.replicate k.toNat its).flatten.toArray := by
    have f0 : ∀ m : Nat, List.foldl (fun x1 x2 => x1 ++ x2) #[] (List.replicate m its.toArray) = (List.replicate m its).flatten.toArray := fun m => by
      have := foldl_rep its m []
      rw [List.nil_append] at this
      exact this
    rw [f0]
    cases its with
    | nil => simp
    | cons a r' => rw [if_neg (by simp)]
  refine wpAny_binaryOp_repeat_ref (T := "list") (U := "int") (by decide) ⟨_, e, rfl⟩ (fun s' => typeIs_int s' k t) noFill_list_mul F.fills_int_mul F.slot_int_rmul repeat_list F.slot_int_index.lookup
    (call_meets F.slot_int_rmul (typeIs_int s k t) F.entry_int_rmul (F.args_int_rmul_2 _ _) (int___rmul___int_list k t l its.toArray n)
      ⟨e, rfl, ⟨_, e, rfl⟩, call_meets F.slot_list_mul ⟨_, e, rfl⟩ F.entry_list_mul (F.args_list_mul_2 _ _) (AutoListH.list___mul___list_int_3 l its.toArray n k t hfit hcap hlong) ⟨e, ?_⟩⟩)
  rw [hnew]
  exact ⟨.ref _, _, I.lnew (t' := s.toks) (r.rep k.toNat) (by rw [len_rep, Nat.mul_comm]; exact hz), rfl, q _ I.fresh⟩

/-! ### del xs[i] -/
theorem del_list {pins : List (Addr × Obj)} {s : Shared} {σ : St} {H : Hp} {l : Addr} {xs : List V} {i : Int} {t : Tok} {k : Nat} {Q : Unit → Shared → Prop} (I : Inv X pins σ H s) (hH : H l = some (.lst xs))
    (h1 : -(2 ^ 63) ≤ i) (h2 : i < 2 ^ 63) (hk : seqIndex? i xs.length = some k) (h : ∀ s', Inv X pins σ (upd H l (.lst (xs.eraseIdx k))) s' → Q () s') :
    wpAny (model X.prog X.w) X.A (delItem (.ref l) (.int i t)) Q X.xe s := by
  obtain ⟨z, its, n, r, hl, e⟩ := I.lstM hH
  refine PySem.P.delItem_list (k := k) e (fitsIndex_both h1 h2) (by rw [List.size_toArray, ← hl]; exact hk) (h _ ?_) (by rw [List.size_toArray]; omega)
  refine I.lset (its' := its.eraseIdx k) (t' := s.toks) hH e ?_ (r.eraseIdx k) ?_
  · show its.toArray.eraseIdxIfInBounds k = (its.eraseIdx k).toArray
    rw [List.eraseIdxIfInBounds_toArray]
  · have := len_erase xs k
    omega
end

/-! ### xs[a:b] = ys -/
section
variable {prog : Program} {w : World} {A : Around} {E : Value → Shared → Prop} {s : Shared}
theorem splice_eq (its its2 : List Value) (a c : Nat) : its.toArray.extract 0 a ++ its2.toArray ++ its.toArray.extract c its.toArray.size = (its.take a ++ its2 ++ its.drop c).toArray := by
  apply Array.toList_inj.mp
  first
    | (simp
       exact List.take_of_length_le (by simp))
    | simp [List.take_of_length_le]
    | simp
theorem bounds_run {a c n : Nat} (hac : a ≤ c) (hc : c ≤ n) : sliceBounds (some (a : Int)) (some (c : Int)) none n = ((a : Int), (c : Int), 1) := by
  simp only [sliceBounds, Option.getD_none]
  have h1 : ¬ ((a : Int) < 0) := by omega
  have h2 : ¬ ((c : Int) < 0) := by omega
  simp only [h1, h2, if_false, show (1 : Int) > 0 by decide, if_true]
  congr 1
  · omega
  · congr 1; omega
set_option maxRecDepth 100000 in
/-- list.__setitem__ with a slice of step one and another list -/
theorem setItem_slice {l b sl : Addr} {items new : Array Value} {n n2 : Nat} {vl vu : Value} {a c : Nat} {Q : Unit → Shared → Prop}
    (e : s.heap.get? l = some { cls := .type "list", data := .seq items n }) (e2 : s.heap.get? b = some { cls := .type "list", data := .seq new n2 }) (hne : l ≠ b)
    (hs : s.heap.IsSliceOf sl vl vu .none) (pl : IsPart vl (some (a : Int))) (pu : IsPart vu (some (c : Int))) (hac : a ≤ c) (hc : c ≤ items.size)
    (hsz : items.size + new.size ≤ sizeLine) (h : Q () { s with heap := s.heap.update l (Obj.mapSeq fun xs => xs.extract 0 a ++ new ++ xs.extract c xs.size) }) :
    wpAny (model prog w) A (setItem (.ref l) (.ref sl) (.ref b)) Q E s := by
  have hl : s.heap.IsList l items := PySem.IsL.isList e
  have hb : s.heap.IsList b new := PySem.IsL.isList e2
  obtain ⟨os, hos, hcs, hds⟩ := id hs
  have hTs : s.TypeIs (.ref sl) "slice" := ⟨os, hos, hcs⟩
  have hstep : ¬ ((rawPart none == rawInt 0) = true) := Bool.false_ne_true
  have hsame : Builtin.List.listSameRef (.ref l) (.ref b) = false := by
    unfold Builtin.List.listSameRef
    exact beq_eq_false_iff_ne.mpr hne
  have hmax : (max (a : Int) (c : Int)).toNat = c := by omega
  have hz' : ((fun xs : Array Value => xs.extract 0 a ++ new ++ xs.extract c xs.size) items).size ≤ sizeLine + 1 := by
    simp only [Array.size_append, Array.size_extract]
    omega
  unfold setItem
  try with_reducible refine wpAny_holding ?_
  first | refine wpAny_bind (wpAny_pure ?_) | skip
  refine wpAny_bind (wpAny_sequenceKey hl.typeIs (by decide) ?_)
  refine wpAny_bind (wpAny_callSpecial?_slot (name := Str.ofString "__setitem__") hl.typeIs slot_list_setitem
    (wpAny_call_entry slot_list_setitem hl.typeIs entry_list_setitem ?_ (args_list_setitem _ _ _)))
  show wpAny _ _ (Builtin.List.listSubscript? (.ref sl) >>= _) _ _ s
  refine wpAny_bind ?_
  unfold Builtin.List.listSubscript?
  refine wpAny_bind (wpAny_specialOf hTs slice_no_index ?_)
  simp only [Option.isNone_none, if_true]
  refine wpAny_pure ?_
  show wpAny _ _ (typeOf (.ref sl) >>= _) _ _ s
  refine wpAny_bind (wpAny_typeOf hTs ?_)
  first
    | rw [if_neg (by decide)]
    | refine PySem.W.KFB.if_not (by decide) ?_
  rw [listSliceParts_eq]
  refine wpAny_bind (wpAny_bind (wpAny_field hos hds (x := .none) rfl (wpAny_bind (wpAny_listPart .none ?_))))
  rw [if_neg hstep]
  refine wpAny_bind (wpAny_field hos hds (x := vl) rfl (wpAny_bind (wpAny_listPart pl ?_)))
  refine wpAny_bind (wpAny_field hos hds (x := vu) rfl (wpAny_bind (wpAny_listPart pu (wpAny_pure ?_))))
  first
    | simp only [hsame, Bool.false_eq_true, if_false]
    | refine PySem.W.KFB.if_not hsame ?_
    | (dsimp only
       rw [if_neg (by rw [hsame]; exact Bool.false_ne_true)])
  refine wpAny_bind (m := Builtin.List.listAllItems (.ref b) "must assign iterable to extended slice") ?_
  unfold Builtin.List.listAllItems
  refine wpAny_bind (wpAny_typeOf hb.typeIs ?_)
  first
    | refine PySem.W.KFB.if_so (by decide) ?_
    | rw [if_pos (by decide)]
    | simp only [beq_self_eq_true, Bool.true_or, if_true]
  unfold Builtin.List.listItems
  refine wpAny_bind (wpAny_seqItems e2 rfl (wpAny_pure ?_))
  refine wpAny_bind (wpAny_bind (wpAny_seqItems e rfl (wpAny_pure ?_)))
  refine wpAny_bind (wpAny_of_eq ((sliceIndices_raw (some (a : Int)) (some (c : Int)) none items.size (by simp)).trans (congrArg (pure : Int × Int × Int → Sem (Int × Int × Int)) (bounds_run hac hc))) ?_)
  show wpAny _ _ (if ((1 : Int) == 1) = true then _ else _) _ _ s
  rw [if_pos (by decide)]
  refine wpAny_bind (wpAny_rule ?_)
  first
    | simp only [notLongL hsz, Bool.false_eq_true, if_false]
    | refine PySem.W.KFB.if_not (notLongL hsz) ?_
  first | refine wpAny_bind (wpAny_pure ?_) | skip
  show wpAny _ _ (updateSeq l (fun xs => xs.extract 0 ((a : Int)).toNat ++ new ++ xs.extract (max (a : Int) (c : Int)).toNat xs.size) >>= _) _ _ s
  rw [hmax, Int.toNat_natCast]
  refine wpAny_bind (wpAny_updateSeq (hz := Nat.le_trans (Nat.le_add_right _ _) hsz) (_hz' := hz') e rfl ?_)
  refine wpAny_bind (wpAny_letGo ?_)
  first
    | exact wpAny_bind (wpAny_pure (wpAny_pure ⟨.none, rfl, wpAny_pure h⟩))
    | exact wpAny_pure ⟨.none, rfl, wpAny_pure h⟩
end

section
variable {X : Cx}
/-- xs[a:c] = ys of another list, at the value level: sl is the slice object that was just made -/
theorem set_slice {pins : List (Addr × Obj)} {s : Shared} {σ : St} {H : Hp} {l b sl : Addr} {xs ys : List V} {a c : Int} {vl vu : Value} {Q : Unit → Shared → Prop} (I : Inv X pins σ H s)
    (hH : H l = some (.lst xs)) (hB : H b = some (.lst ys)) (hne : l ≠ b) (hs : s.heap.IsSliceOf sl vl vu .none) (ra : RelV (.int a) vl) (rc : RelV (.int c) vu) (h0 : 0 ≤ a) (hac : a ≤ c) (hc : c ≤ xs.length)
    (hz : xs.length + ys.length ≤ sizeLine) (h : ∀ s', Inv X pins σ (upd H l (.lst (xs.take a.toNat ++ ys ++ xs.drop c.toNat))) s' → Q () s') :
    wpAny (model X.prog X.w) X.A (setItem (.ref l) (.ref sl) (.ref b)) Q X.xe s := by
  obtain ⟨ta, rfl⟩ := ra
  obtain ⟨tc, rfl⟩ := rc
  obtain ⟨z, its, n, r, hl, e⟩ := I.lstM hH
  obtain ⟨z2, its2, n2, r2, hl2, e2⟩ := I.lstM hB
  obtain ⟨a', rfl⟩ := Int.eq_ofNat_of_zero_le h0
  obtain ⟨c', rfl⟩ := Int.eq_ofNat_of_zero_le (Int.le_trans h0 hac)
  simp only [Int.toNat_natCast] at h
  refine setItem_slice (a := a') (c := c') e e2 hne hs (.int _ _) (.int _ _) (by omega) (by rw [List.size_toArray]; omega) (by rw [List.size_toArray, List.size_toArray]; omega) (h _ ?_)
  refine I.lset (its' := its.take a' ++ its2 ++ its.drop c') (t' := s.toks) hH e ?_ (Vals.append (Vals.append (r.take _) r2) (r.drop _)) ?_
  · exact splice_eq its its2 a' c'
  · rw [List.length_append, List.length_append, List.length_take, List.length_drop]
    omega
end
end L2

namespace Att
open PySem PySem.W PySem.Calls PyProof.Rows

/-! ### the script -/
theorem ints_of_wellAll {P : Params} {h : Heap} : ∀ (ns : List Int) (vs : List Value), WellAll P h vs (ns.map WData.int) → IntsAre vs ns := by
  intro ns
  induction ns with
  | nil =>
    intro vs w
    rw [List.map_nil] at w
    cases w
    exact .nil
  | cons n ns ih =>
    intro vs w
    rw [List.map_cons] at w
    cases w with
    | cons a b =>
      cases a
      exact .cons _ _ (ih _ b)

theorem script_of {l : OpenLaw} {n : Nat} (hn : l.most = some n) {P : Params} {h : Heap} {args : List WData} {vals : List Value}
    (hpre : l.row.toRowW.claim.pre args = true) (hwl : WellAll P h vals args) :
    ∃ a vs ns, vals = [Value.ref a] ∧ args = [WData.list (ns.map WData.int)] ∧ h.get? a = some { cls := .type "list", data := .seq vs.toArray } ∧ IntsAre vs ns ∧ ns.length ≤ n := by
  have hsh : WShape.hasAll [] args [.list .int] = true := (pre_splitW hpre).1
  have hc : l.pre.holds [] { args := args } = true := (pre_splitW hpre).2
  obtain ⟨d, r, rfl, h1, h2⟩ := hasAllW_cons hsh
  obtain rfl := hasAllW_nil h2
  obtain ⟨xs, rfl, h3⟩ := hasW_list h1
  obtain ⟨ns, rfl⟩ := items_int h3
  have hlen : ns.length ≤ n := by
    unfold OpenLaw.pre at hc
    have h4 : (WTm.not (.lt (.lit (.int (n : Int))) (.len (.arg 0)))).holds [] { args := [.list (ns.map .int)] } = true := by
      have h4 := (holds_andW hc).1
      rw [hn] at h4
      exact h4
    have h5 := condW_of h4 (w_not (w_lt w_lit (w_len_list (w_arg rfl))))
    rw [List.length_map] at h5
    refine Nat.le_of_not_lt fun q => ?_
    have q' : (n : Int) < ((ns.length : Nat) : Int) := by omega
    first
      | (rw [decide_eq_true q'] at h5; exact absurd h5 (by decide))
      | (simp at h5; omega)
  cases hwl with
  | cons w1 w2 =>
    cases w2
    cases w1 with
    | list ho hall => exact ⟨_, _, ns, rfl, rfl, ho, ints_of_wellAll ns _ hall, hlen⟩

theorem post_true (l : OpenLaw) (args : List WData) : l.row.toRowW.claim.post args (.bool true) args = true :=
  postW_of (r := l.row.toRowW) (X := (true == true))
    (show WShape.has [] (.bool true) .bool = true by first | rfl | decide | simp [WShape.has, WShape.arms, WShape.armsAll])
    (show (WTm.eq .res (.lit (.bool true))).value [] { args := args, res := some (.bool true), after := args } = some (.bool (true == true)) from w_eq_bool (w_res rfl) w_lit) rfl

/-! ### the attachment: holds_open's last premise (the goal 'hc' behind k_head) from a wpAny of the law's body -/
theorem attach {l : OpenLaw} {n : Nat} {q : Program} {loose : List Str} {XP : (Str → Option Value) → Heap → Prop} {YP : World → Heap → Prop} {d : DefRec} {x : Str}
    (hn : l.most = some n) (hdf : d.params.defaults = [])
    (hbind : ∀ pm cd doc v : Value, bindArgs (docDef d.name d.params d.body d.scope pm cd doc) ⟨[v], []⟩ = pure [(x, v)])
    (hx : d.scope.names.lookup x = some .local ∨ d.scope.names.lookup x = some .cell)
    (hk : d.scope.kind = .function) (hco : d.scope.isCoroutine = false) (hgen : d.scope.isGenerator = false)
    (body : ∀ (w : World) (s₀ s₁ s : Shared) (mg mb : Str → Option Value) (fa : Addr) (o : Obj) (pm cd doc : Value) (a : Addr) (vs : List Value) (ns : List Int),
      Ground q loose [] XP w s₀ mg mb s₁.heap → YP w s₁.heap →
      s₁.heap.get? fa = some o → o.data = .func (docDef d.name d.params d.body d.scope pm cd doc) → s₁.heap.CodeRec cd d.name → mg d.name = some (.ref fa) →
      s₁.heap.get? a = some { cls := .type "list", data := .seq vs.toArray } → IntsAre vs ns → ns.length ≤ n →
      s.gens = #[] → s.os = s₁.os →
      Fr s₁.heap s₁.heap.objs.size s.heap (bindL (envOfC d.name d.scope s₁.heap.objs.size fa cd).kindOf [(x, .ref a)] fun _ => none) →
      Cl s₁.heap.objs.size (cellsFrom (s₁.heap.objs.size + 1) d.scope.names []) s.heap (bindC (envOfC d.name d.scope s₁.heap.objs.size fa cd).kindOf [(x, .ref a)] fun _ => none) →
      wpAny (model l.prog w) (callerA.deeper (envOfC d.name d.scope s₁.heap.objs.size fa cd)) (execs d.body (envOfC d.name d.scope s₁.heap.objs.size fa cd))
        (fun f s' => f = .ret (.bool true) ∧ OldK s₁.heap s'.heap ∧ s'.os = s₁.os ∧ AllBare s'.gens) (fun _ _ => False) s) :
    WalkO q loose XP YP l.row.toRowW d [] (fun f vs => PySem.call f vs) := by
  intro w s₀ s₁ mg mb G Y fa o pm cd doc dV kV ho hd hcd hD hmg hg args vals as hpre hlay hrd hwl hlo
  obtain rfl : dV = .none := Dflts.none hD hdf
  obtain rfl : kV = .none := Dflts.noKw hD
  obtain ⟨a, vs, ns, rfl, rfl, hobj, hints, hlen⟩ := script_of hn hpre hwl
  refine enter_call ?_
  refine call_cells_ret (o := o) (by rw [depth_caller]; decide) ho (fd_plain hd) G.T.nolimit hcd (hbind pm cd doc (.ref a)) (fun y hy => ?_) (fun h₁ tk F X => ?_) hco hgen hk
  · obtain rfl : y = (x, Value.ref a) := List.mem_singleton.mp hy
    rcases hx with e | e
    · exact .inl e
    · exact .inr ⟨e, cellsFrom_some _ _ _ (.inl e)⟩
  · refine wpAny_mono (body w s₀ s₁ { s₁ with heap := h₁, toks := tk } mg mb fa o pm cd doc a vs ns G Y ho (fd_plain hd) hcd hmg hobj hints hlen hg rfl F X) (fun f s' hq => ?_) (fun _ _ hq => hq)
    obtain ⟨rfl, h2, h3, h4⟩ := hq
    exact ⟨.inl ⟨.bool true, .bool true, [], rfl, fun _ => rfl, .bool true, post_true l _, fun _ => ⟨List.Pairwise.nil, fun _ hm => (nomatch hm)⟩⟩, h2, h3, h4⟩

/-- the same from a codeAny of the CALL (for a layer whose function contracts speak of calls) -/
theorem attach_call {l : OpenLaw} {n : Nat} {q : Program} {loose : List Str} {XP : (Str → Option Value) → Heap → Prop} {YP : World → Heap → Prop} {d : DefRec}
    (hn : l.most = some n) (hdf : d.params.defaults = [])
    (call : ∀ (w : World) (s₀ s₁ : Shared) (mg mb : Str → Option Value) (fa : Addr) (o : Obj) (pm cd doc : Value) (a : Addr) (vs : List Value) (ns : List Int),
      Ground q loose [] XP w s₀ mg mb s₁.heap → YP w s₁.heap →
      s₁.heap.get? fa = some o → o.data = .func (docDef d.name d.params d.body d.scope pm cd doc) → s₁.heap.CodeRec cd d.name → mg d.name = some (.ref fa) →
      s₁.heap.get? a = some { cls := .type "list", data := .seq vs.toArray } → IntsAre vs ns → ns.length ≤ n → s₁.gens = #[] →
      codeAny (model l.prog w) callerA (.call (.ref fa) ⟨[.ref a], []⟩) (fun r s' => r = .ok (.ret (.bool true)) ∧ OldK s₁.heap s'.heap ∧ s'.os = s₁.os ∧ AllBare s'.gens) s₁) :
    WalkO q loose XP YP l.row.toRowW d [] (fun f vs => PySem.call f vs) := by
  intro w s₀ s₁ mg mb G Y fa o pm cd doc dV kV ho hd hcd hD hmg hg args vals as hpre hlay hrd hwl hlo
  obtain rfl : dV = .none := Dflts.none hD hdf
  obtain rfl : kV = .none := Dflts.noKw hD
  obtain ⟨a, vs, ns, rfl, rfl, hobj, hints, hlen⟩ := script_of hn hpre hwl
  refine enter_call (codeAny_mono (call w s₀ s₁ mg mb fa o pm cd doc a vs ns G Y ho (fd_plain hd) hcd hmg hobj hints hlen hg) fun r s' hq => ?_)
  obtain ⟨rfl, h2, h3, h4⟩ := hq
  exact ⟨.inl ⟨.bool true, .bool true, [], rfl, fun _ => rfl, .bool true, post_true l _, fun _ => ⟨List.Pairwise.nil, fun _ hm => (nomatch hm)⟩⟩, h2, h3, h4⟩

/-- the same where the top left finished generators (o_head chose holds_openN): nothing may have changed at all and no generator may be left -/
theorem attachN {l : OpenLaw} {n : Nat} {q : Program} {loose : List Str} {XP : (Str → Option Value) → Heap → Prop} {YP : World → Heap → Prop} {d : DefRec} {x : Str}
    (hn : l.most = some n) (hdf : d.params.defaults = [])
    (hbind : ∀ pm cd doc v : Value, bindArgs (docDef d.name d.params d.body d.scope pm cd doc) ⟨[v], []⟩ = pure [(x, v)])
    (hx : d.scope.names.lookup x = some .local ∨ d.scope.names.lookup x = some .cell)
    (hk : d.scope.kind = .function) (hco : d.scope.isCoroutine = false) (hgen : d.scope.isGenerator = false)
    (body : ∀ (w : World) (s₀ s₁ s : Shared) (mg mb : Str → Option Value) (fa : Addr) (o : Obj) (pm cd doc : Value) (a : Addr) (vs : List Value) (ns : List Int),
      Ground q loose [] XP w s₀ mg mb s₁.heap → YP w s₁.heap →
      s₁.heap.get? fa = some o → o.data = .func (docDef d.name d.params d.body d.scope pm cd doc) → s₁.heap.CodeRec cd d.name → mg d.name = some (.ref fa) →
      s₁.heap.get? a = some { cls := .type "list", data := .seq vs.toArray } → IntsAre vs ns → ns.length ≤ n →
      s.gens = #[] → s.os = s₁.os →
      Fr s₁.heap s₁.heap.objs.size s.heap (bindL (envOfC d.name d.scope s₁.heap.objs.size fa cd).kindOf [(x, .ref a)] fun _ => none) →
      Cl s₁.heap.objs.size (cellsFrom (s₁.heap.objs.size + 1) d.scope.names []) s.heap (bindC (envOfC d.name d.scope s₁.heap.objs.size fa cd).kindOf [(x, .ref a)] fun _ => none) →
      wpAny (model l.prog w) (callerA.deeper (envOfC d.name d.scope s₁.heap.objs.size fa cd)) (execs d.body (envOfC d.name d.scope s₁.heap.objs.size fa cd))
        (fun f s' => f = .ret (.bool true) ∧ (∀ b o, s₁.heap.get? b = some o → s'.heap.get? b = some o) ∧ s'.os = s₁.os ∧ s'.gens = #[]) (fun _ _ => False) s) :
    WalkN q loose XP YP l.row.toRowW d [] (fun f vs => PySem.call f vs) := by
  intro w s₀ s₁ mg mb G Y fa o pm cd doc dV kV ho hd hcd hD hmg hg args vals as hpre hlay hrd hwl hlo
  obtain rfl : dV = .none := Dflts.none hD hdf
  obtain rfl : kV = .none := Dflts.noKw hD
  obtain ⟨a, vs, ns, rfl, rfl, hobj, hints, hlen⟩ := script_of hn hpre hwl
  refine enter_callW ?_
  refine call_cells_ret (o := o) (by rw [depth_caller]; decide) ho (fd_plain hd) G.T.nolimit hcd (hbind pm cd doc (.ref a)) (fun y hy => ?_) (fun h₁ tk F X => ?_) hco hgen hk
  · obtain rfl : y = (x, Value.ref a) := List.mem_singleton.mp hy
    rcases hx with e | e
    · exact .inl e
    · exact .inr ⟨e, cellsFrom_some _ _ _ (.inl e)⟩
  · refine wpAny_mono (body w s₀ s₁ { s₁ with heap := h₁, toks := tk } mg mb fa o pm cd doc a vs ns G Y ho (fd_plain hd) hcd hmg hobj hints hlen hg rfl F X) (fun f s' hq => ?_) (fun _ _ hq => hq)
    obtain ⟨rfl, h2, h3, h4⟩ := hq
    exact ⟨.inl ⟨.bool true, .bool true, [], rfl, fun _ => rfl, .bool true, post_true l _, fun _ => ⟨List.Pairwise.nil, fun _ hm => (nomatch hm)⟩⟩, h2, h3, h4⟩

/-! ### rules over ANY heap (no ledger) from facts about the written part K: the library's own take a ledger (News) for what they write -/
section
variable {prog : Program} {w : World} {A : Around} {E : Value → Shared → Prop} {s : Shared} {K : Frag}

/-- a def of the module, or a method (qual 'C.m'), entered: the frame is the next address; cells behind it -/
theorem call_fn {R : Result → Shared → Prop} {name qual : Str} {params : Arguments} {body : List Stmt} {scope : Scope} {dV kV doc pm cdv ct oc : Value} {an od : Option Addr} {osl : Array (Option Value)} {f : Addr} {args : Args} {binds : List (Str × Value)}
    (X : K.In s.heap) (hlim : s.heap.NoLimit) (ho : K.lookup f = some ⟨oc, od, .func (fnOf name qual params body scope dV kV doc pm an cdv ct), osl⟩) (hcd : codeIn K cdv qual = true) (hroom : A.depth < recursionLimit)
    (hbind : BindsTo s (fnOf name qual params body scope dV kV doc pm an cdv ct) args binds)
    (hkind : (binds.all fun y => scope.names.lookup y.1 == some .local || scope.names.lookup y.1 == some .cell) = true)
    (h : ∀ s₁, InCallC s s.heap.objs.size (bindL (envOfC qual scope s.heap.objs.size f cdv).kindOf binds fun _ => none) (cellsFrom (s.heap.objs.size + 1) scope.names [])
        (bindC (envOfC qual scope s.heap.objs.size f cdv).kindOf binds fun _ => none) s₁ →
      wpAny (model prog w) (A.deeper (envOfC qual scope s.heap.objs.size f cdv)) (execs body (envOfC qual scope s.heap.objs.size f cdv))
        (fun fl s' => R (.ok (.ret (match fl with | .ret v => v | _ => .none))) s')
        (fun e s' => wpAny (model prog w) (A.deeper (envOfC qual scope s.heap.objs.size f cdv)) (leaving (envOfC qual scope s.heap.objs.size f cdv) e) (fun _ s'' => R (.error e) s'') (fun e' s'' => R (.error e') s'') s') s₁)
    (hco : scope.isCoroutine = false) (hgen : scope.isGenerator = false) (hk : scope.kind = .function) : codeAny (model prog w) A (.call (.ref f) args) R s := by
  refine codeAny_call_function hroom (X _ _ ho) rfl hco hgen rfl (codeRec_of X hcd) (hbind _ _ _ _ ?_)
  refine wpAny_newFunctionEnv_cells hk (kindsX hkind _) fun env he s₁ x => ?_
  subst he
  exact ⟨hlim.keeps x.toInCall.keep, codeAny_func (h s₁ x)⟩

/-- C(..): dict at size, instance at size + 1, then __init__ -/
theorem make_obj {R : Result → Shared → Prop} {C fI : Addr} {rest : List Value} {kw : List (Str × Value)}
    (X : K.In s.heap) (hm : makesIn K C = true) (hi : findIn K (.ref C) "__init__" = some (some (.ref fI))) (hf : isFn K (.ref fI) = true)
    (h : codeAny (model prog w) (A.under (.builtin "type.__call__" ⟨.ref C :: rest, kw⟩)) (.call (.ref fI) ⟨.ref (s.heap.objs.size + 1) :: rest, kw⟩) (InitBack (s.heap.objs.size + 1) R)
      { s with heap := (s.heap.push emptyDict).push (instObj C s.heap.objs.size) }) : codeAny (model prog w) A (.call (.ref C) ⟨rest, kw⟩) R s := by
  obtain ⟨hh, g, d, t, os⟩ := s
  exact make_core (makes_of X hm) (looks_findIn X hi) (fun self => bind_fn X self (beq_iff_eq.mp hf)) (.inl rfl) h

/-- x.name where the instance's dict holds the name and the class does not -/
theorem get_field {x C : Addr} {ox : Obj} {es : List DictEntry} {n : Nat} {name : Str} {expr : Bool} {v : Value} {Q : Value → Shared → Prop}
    (X : K.In s.heap) (I : PySem.W.InstAt s.heap x ox C (some (dictOf es n))) (hg : plainGet K C name = true) (hh : hasDictIn K C = true) (ha : findIn K (.ref C) name = some none)
    (hl : getL name es = some (some v)) (hv : handedIn v = true) (h : Q v { s with toks := s.toks + 1 }) : wpAny (model prog w) A (getAttr (.ref x) name expr) Q E s :=
  get_value X I (plainGet_of hg).1 (findObj_own hh ha rfl hl) hv h

/-- x.m(..): the method found in the class -/
theorem get_method {x C f : Addr} {ox : Obj} {es : List DictEntry} {n : Nat} {name : Str} {pl : Sem Bool} {Q : Value × List Value → Shared → Prop}
    (X : K.In s.heap) (I : PySem.W.InstAt s.heap x ox C (some (dictOf es n))) (hg : plainGet K C name = true) (hf : findIn K (.ref C) name = some (some (.ref f))) (ht : isFn K (.ref f) = true)
    (hl : getL name es = some none) (h : Q (.ref f, [.ref x]) s) : wpAny (model prog w) A (getMethod (.ref x) name pl) Q E s :=
  method_fn X I (plainGet_of hg).1 (plainGet_of hg).2 hf (beq_iff_eq.mp ht) (by show (lookIn name (dictOf es n)).map _ = _; rw [lookIn_dict, hl]; rfl) h

/-! the whole heap as the ledger: makes every rule that writes through a ledger a rule over any heap -/
def noObjs (h : Heap) : Heap := { h with objs := #[] }
theorem noObjs_get (h : Heap) (b : Addr) : (noObjs h).get? b = none := by
  cases e : (noObjs h).get? b with
  | none => rfl
  | some o => exact absurd (Heap.lt_size e) (Nat.not_lt_zero _)
def ledger (h : Heap) (L d : Addr) : List (Addr × Obj) := (List.range h.objs.size).filterMap fun a => if a = L ∨ a = d then none else (h.get? a).map fun o => (a, o)
theorem mem_ledger {h : Heap} {L d a : Addr} {o : Obj} : (a, o) ∈ ledger h L d ↔ a ≠ L ∧ a ≠ d ∧ h.get? a = some o := by
  unfold ledger
  rw [List.mem_filterMap]
  constructor
  · rintro ⟨b, _, e⟩
    split at e
    · cases e
    · rename_i hb
      obtain ⟨o', ho, e'⟩ := Option.map_eq_some_iff.mp e
      cases e'
      exact ⟨fun q => hb (.inl q), fun q => hb (.inr q), ho⟩
  · rintro ⟨n1, n2, ho⟩
    refine ⟨a, List.mem_range.mpr (Heap.lt_size ho), ?_⟩
    rw [if_neg (show ¬ (a = L ∨ a = d) from fun q => q.elim n1 n2), ho] <;> rfl
theorem news_ledger {h : Heap} {L d : Addr} {od : Obj} (hne : d ≠ L) (ho : h.get? d = some od) : News (noObjs h) L h ([] ++ (d, od) :: ledger h L d) := by
  rintro ⟨a, o⟩ hp
  rcases List.mem_cons.mp hp with e | hp
  · cases e
    exact ⟨ho, hne, noObjs_get _ _⟩
  · obtain ⟨n1, n2, e⟩ := mem_ledger.mp hp
    exact ⟨e, n1, noObjs_get _ _⟩
theorem fr_all {h : Heap} {L : Addr} {m : Str → Option Value} (n : h.Ns L m) : Fr (noObjs h) L h m :=
  ⟨n, fun b o e => (by rw [noObjs_get] at e; cases e), Nat.zero_le _⟩
/-- Upd of the head entry (for append_K, setItem_K ..) -/
theorem upd_ledger {h : Heap} {L d : Addr} {o o' : Obj} : Upd d o o' ((d, o) :: ledger h L d) ((d, o') :: ledger h L d) :=
  .head fun ⟨_, _⟩ hp => (mem_ledger.mp hp).2.1

/-- x.name = v over any heap: L is any namespace of the heap (the frame's, say): its map stays, its object is not told; all else but the dict stays -/
theorem set_field {x C dx L : Addr} {ox : Obj} {m : Str → Option Value} {es es' : List DictEntry} {n n' : Nat} {name : Str} {v : Value} {Q : Unit → Shared → Prop}
    (X : K.In s.heap) (I : PySem.W.InstAt s.heap x ox C (some (dictOf es n))) (hd : ox.dict = some dx) (hL : s.heap.Ns L m) (hne : dx ≠ L)
    (hs : findIn K (.ref C) "__setattr__" = some (some (.builtin "object.__setattr__"))) (hp : plainOver K C = true) (ht : takerIn K C name = some none) (hh : hasDictIn K C = true) (hl : (getL name es).isSome = true)
    (e : (putL name (PyData.keyHash w.params name) (.str name (s.toks + 1)) v es, putN name es n) = (es', n')) (hz : es'.length ≤ 1000)
    (h : ∀ h' : Heap, h'.Ns L m → h'.get? dx = some (dictOf es' n') → (∀ b o, b ≠ dx → b ≠ L → s.heap.get? b = some o → h'.get? b = some o) → Q () { s with heap := h', toks := s.toks + 2 }) :
    wpAny (model prog w) A (setAttr (.ref x) name v) Q E s := by
  obtain ⟨e1, e2⟩ := Prod.mk.inj e
  have hdx : s.heap.get? dx = some (dictOf es n) := by
    have := I.dict
    rw [hd] at this
    exact this
  refine set_plain X I hs (osa_dict (s := { s with toks := s.toks + 1 }) (h₀ := noObjs s.heap) (L := L) (m := m) (od := dictOf es n) (od' := dictOf es' n') (es := es') (n := n') (pre := []) (post := ledger s.heap L dx)
    (fr_all hL) (news_ledger hne hdx) X I hd hp ht hh hl (fun _ q => nomatch q) (fun ⟨_, _⟩ q => (mem_ledger.mp q).2.1) (by rw [putName_dict, e1, e2]) rfl hz fun h' F' N' => ?_)
  exact h h' F'.ns (N'.get (List.Mem.head _)) fun b o n1 n2 ho => N'.get (List.Mem.tail _ (mem_ledger.mpr ⟨n2, n1, ho⟩))
end
end Att

namespace L2
open PySem PySem.Spec PyProof.Rows

theorem vals_ints : ∀ {vs : List Value} {ns : List Int}, IntsAre vs ns → Vals (ns.map V.int) vs
  | _, _, .nil => .nil
  | _, _, .cons n t h => .cons ⟨t, rfl⟩ (vals_ints h)

/-- nothing is tracked but the script, known to the object (or it is an object of the module) -/
def Only (H : Hp) : Prop := ∀ b, H b = none ∨ ∃ o xs, H b = some (.frz o (.lst xs))

/-- THE HEAD: the law's promise, at the heap behind the top. F, the promise of the law's def, may use that base is part of the heap (so K.In base, base.Ns mainGlobals mg stand in Mod) -/
theorem law_call {P : Program} {w : World} {K : PySem.W.Frag} {mg mb : Str → Option Value} {CX : CXT} {k : Nat} {fa a : Addr} {fd : FuncData} {x : Str} {sp : Sp} {s₁ : Shared} {vs : List Value} {ns : List Int}
    (KX : K.In s₁.heap) (hns : s₁.heap.Ns mainGlobals mg) (hb : s₁.heap.Ns builtinsNs mb) (hbb : ∀ x : Str, x ≠ "__name__" → mb x = bootBuiltins x) (hlim : s₁.heap.NoLimit) (hg : s₁.gens = #[])
    (ha : s₁.heap.get? a = some { cls := .type "list", data := .seq vs.toArray }) (hi : IntsAre vs ns) (hl : ns.length ≤ sizeLine) (hr : Room k callerA)
    (F : ∀ base : Heap, K.In base → base.Ns mainGlobals mg → FnOk P w K mg base CX k fa fd [x] sp) (hbind : ∀ (s : Shared) (u : Value), BindsTo s fd ⟨[u], []⟩ [(x, u)])
    (hsp : ∀ H : Hp, Only H → SqL K H a (ns.map V.int) → sp [.ref a] H (fun v _ => v = .bl true) fun _ _ _ => False)
    (hCX : ∀ H e s', CX [] H s₁ (fun _ _ _ => False) e s' → False) :
    codeAny (model P w) callerA (.call (.ref fa) ⟨[.ref a], []⟩) (fun r s' => r = .ok (.ret (.bool true)) ∧ OldK s₁.heap s'.heap ∧ s'.os = s₁.os ∧ AllBare s'.gens) s₁ := by
  have rv := vals_ints hi
  have lenV := hi.length
  -- from an abstract heap in which nothing but the script may be tracked
  have core : ∀ H : Hp, Only H → SqL K H a (ns.map V.int) → HOk P w H s₁.heap → (∀ b, H b ≠ none → b = a) → (H a ≠ none → K.lookup a = none) →
      codeAny (model P w) callerA (.call (.ref fa) ⟨[.ref a], []⟩) (fun r s' => r = .ok (.ret (.bool true)) ∧ OldK s₁.heap s'.heap ∧ s'.os = s₁.os ∧ AllBare s'.gens) s₁ := by
    intro H hO hS hok hA hK
    have base_of : ∀ {b : Addr} {o : Obj}, s₁.heap.get? b = some o → H b = none → (hidT s₁.heap H).get? b = some o := fun e n => hidT_get e n
    have noA : ∀ {b : Addr} {o : Obj} {es : Array DictEntry} {ep : Nat}, s₁.heap.get? b = some o → o.data = .dict es ep → H b = none := fun {b o es ep} e d => by
      cases q : H b with
      | none => rfl
      | some u =>
        have e' : b = a := hA b (by rw [q]; simp)
        subst e'
        rw [ha] at e; cases e
        have d' : Data.seq vs.toArray _ = Data.dict es ep := d
        cases d'
    have nsK : ∀ {b : Addr} {m : Str → Option Value}, s₁.heap.Ns b m → (hidT s₁.heap H).Ns b m := fun {b m} ⟨o, es, ep, e, d, r⟩ => ⟨o, es, ep, base_of e (noA e d), d, r⟩
    have hKb : K.In (hidT s₁.heap H) := fun b o e => base_of (KX b o e) (by
      cases q : H b with
      | none => rfl
      | some u =>
        have e' : b = a := hA b (by rw [q]; simp)
        subst e'
        rw [hK (by rw [q]; simp)] at e; cases e)
    have hM : Mod K mg (hidT s₁.heap H) := ⟨hKb, nsK hns, ⟨mb, nsK hb, hbb⟩, let ⟨mc, h1, h2⟩ := hlim; ⟨mc, nsK h1, h2⟩⟩
    have e0 : Env0 P w K mg (hidT s₁.heap H) callerA [] s₁ H := ⟨rfl, hM, fun b o e => of_hidT e, Nat.le_of_eq (hidT_size _ _), trivial, fun b hb => absurd (show b ∈ ([] : List Addr) from hb) (by simp), hok, .of_eq hg⟩
    refine codeAny_mono ((F _ hKb (nsK hns)).run callerA [] s₁ H ⟨[.ref a], []⟩ [.ref a] [.ref a] _ _ hr e0 (hbind s₁ (.ref a)) (.cons rfl .nil) (hsp H hO hS)) fun r s' h => ?_
    cases r with
    | error e => exact (hCX H e s' h).elim
    | ok fl =>
      cases fl with
      | next => exact False.elim h
      | brk => exact False.elim h
      | cont => exact False.elim h
      | ret u =>
        obtain ⟨v, H', os, bare, un, hok', r', q⟩ := h
        have q' : v = .bl true := q
        subst q'
        obtain rfl : u = Value.bool true := r'
        refine ⟨rfl, OldK.of_keep fun b o e => ?_, os, bare⟩
        cases q : H b with
        | none => exact un.keep b o e q (by intro z; exact absurd (show b ∈ ([] : List Addr) from z) (by simp)) (by simp)
        | some u =>
          rcases hO b with z | ⟨ob, xs, z⟩
          · rw [q] at z; cases z
          · have z2 := un.frzs b ob _ z
            obtain ⟨e1, _⟩ := hok b _ z
            obtain ⟨e2, _⟩ := hok' b _ z2
            rw [e] at e1; cases e1
            exact e2
  cases hk : K.lookup a with
  | some o =>
    -- the script is one of the module's own objects
    have e := KX a o hk
    rw [ha] at e
    cases e
    refine core (fun _ => none) (fun _ => .inl rfl) (.inr ⟨_, vs.toArray, _, hk, rfl, rfl, rfl, by rw [List.size_toArray, lenV]; exact hl, by simpa using rv⟩) (fun b u z => by have z' : (none : Option HO) = some u := z; cases z') (fun b z => absurd rfl z) fun z => absurd rfl z
  | none =>
    refine core (fun b => if b = a then some (.frz { cls := .type "list", data := .seq vs.toArray } (.lst (ns.map V.int))) else none) (fun b => ?_) (.inl (.inr ⟨{ cls := .type "list", data := .seq vs.toArray }, if_pos rfl⟩)) (fun b u z => ?_) (fun b z => ?_) fun _ => hk
    · by_cases hb : b = a
      · exact .inr ⟨_, _, if_pos hb⟩
      · exact .inl (if_neg hb)
    · by_cases hb : b = a
      · have z' := (if_pos hb).symm.trans z
        cases z'
        subst hb
        exact ⟨ha, by rw [List.length_map]; exact hl, vs, _, rv, ha⟩
      · have z' := (if_neg hb).symm.trans z
        cases z'
    · by_cases hb : b = a
      · exact hb
      · exact absurd (if_neg hb) z
end L2

namespace L2
open PySem PySem.Spec PyProof.Rows

abbrev KOf {K : PySem.W.Frag} {h : Heap} (_ : K.In h) : PySem.W.Frag := K

/-- the goal that k_head leaves (case hc), from the law's promise. F gives the function object fd (K's own) once, then the promise over every base -/
theorem walk_of {l : PySem.W.OpenLaw} {n k : Nat} {q : Program} {loose : List Str} {XP : (Str → Option Value) → Heap → Prop} {YP : World → Heap → Prop} {d : DefRec} {K : Params → PySem.W.Frag} {CX : World → CXT} {sp : World → Sp} {x : Str}
    (hn : l.most = some n) (hn2 : n ≤ sizeLine) (hdf : d.params.defaults = []) (hr : Room k callerA)
    (hY : ∀ (w : World) (h : Heap), YP w h → (K w.params).In h)
    (F : ∀ (w : World) (mg : Str → Option Value) (fa : Addr) (h : Heap), (K w.params).In h → h.Ns mainGlobals mg → mg d.name = some (.ref fa) →
      ∃ fd : FuncData, (∀ (s : Shared) (u : Value), BindsTo s fd ⟨[u], []⟩ [(x, u)]) ∧
        ∀ base : Heap, (K w.params).In base → base.Ns mainGlobals mg → FnOk l.prog w (K w.params) mg base (CX w) k fa fd [x] (sp w))
    (hsp : ∀ (w : World) (H : Hp) (a : Addr) (ns : List Int), ns.length ≤ n → Only H → SqL (K w.params) H a (ns.map V.int) → sp w [.ref a] H (fun v _ => v = .bl true) fun _ _ _ => False)
    (hCX : ∀ (w : World) (H : Hp) (s : Shared) (e : Value) (s' : Shared), CX w [] H s (fun _ _ _ => False) e s' → False) :
    PySem.W.WalkO q loose XP YP l.row.toRowW d [] (fun f vs => PySem.call f vs) := by
  refine Att.attach_call hn hdf fun w s₀ s₁ mg mb fa o pm cd doc a vs ns G Y ho hd hcd hmg hobj hints hlen hg => ?_
  have KX := hY w _ Y
  obtain ⟨fd, hb, hF⟩ := F w mg fa _ KX G.T.g hmg
  exact law_call KX G.T.g G.T.b G.T.builtins G.T.nolimit hg hobj hints (Nat.le_trans hlen hn2) hr hF hb (fun H hO hS => hsp w H a ns hlen hO hS) fun H e s' => hCX w H s₁ e s'
/-- the same where the promise hangs on the written part alone: (sp := My.sp_law), no hole under a binder -/
theorem walk_ofK {l : PySem.W.OpenLaw} {n k : Nat} {q : Program} {loose : List Str} {XP : (Str → Option Value) → Heap → Prop} {YP : World → Heap → Prop} {d : DefRec} {K : Params → PySem.W.Frag} {CX : CXT} {sp : PySem.W.Frag → Sp} {x : Str}
    (hn : l.most = some n) (hn2 : n ≤ sizeLine) (hdf : d.params.defaults = []) (hr : Room k callerA)
    (hY : ∀ (w : World) (h : Heap), YP w h → (K w.params).In h)
    (F : ∀ (w : World) (mg : Str → Option Value) (fa : Addr) (h : Heap), (K w.params).In h → h.Ns mainGlobals mg → mg d.name = some (.ref fa) →
      ∃ fd : FuncData, (∀ (s : Shared) (u : Value), BindsTo s fd ⟨[u], []⟩ [(x, u)]) ∧
        ∀ base : Heap, (K w.params).In base → base.Ns mainGlobals mg → FnOk l.prog w (K w.params) mg base CX k fa fd [x] (sp (K w.params)))
    (hsp : ∀ (K : PySem.W.Frag) (H : Hp) (a : Addr) (ns : List Int), ns.length ≤ n → Only H → SqL K H a (ns.map V.int) → sp K [.ref a] H (fun v _ => v = .bl true) fun _ _ _ => False)
    (hCX : ∀ (H : Hp) (s : Shared) (e : Value) (s' : Shared), CX [] H s (fun _ _ _ => False) e s' → False) :
    PySem.W.WalkO q loose XP YP l.row.toRowW d [] (fun f vs => PySem.call f vs) :=
  walk_of (K := K) (CX := fun _ => CX) (sp := fun w => sp (K w.params)) hn hn2 hdf hr hY F (fun w H a ns h1 h2 h3 => hsp (K w.params) H a ns h1 h2 h3) fun _ H s e s' => hCX H s e s'
end L2

/- THE LAST THEOREM (shape; LID, My.* are yours):
   My.Adr: a structure of the addresses that your layer names (classes, functions); My.Txt K t: a structure (Prop) of the equations over K;
   My.txt_mk : {K} {implicit addresses ..} (e1 : nsIn K mainGlobals "law" = some (some (.ref f))) (e2 : K.lookup f = some ⟨oc, od, .func (fnOf "law" "law" params body scope dV kV doc pm an cdv ct), sl⟩) (e3 : codeIn K cdv "law" = true) .. : ∃ t, My.Txt K t

set_option maxRecDepth 100000 in
set_option maxHeartbeats 0 in
theorem PySem.Challenge.cw_LID_holds : PySem.Challenge.rw_LID.Holds := by
  w_on; o_law; k_head; (case hw => w_witness2)
  k_fill
  refine L2.walk_of (l := PySem.Challenge.rw_LID) (n := 63) (k := 40) (x := "script") (CX := fun w => ..) (sp := fun _ => My.sp_law) rfl (by decide) rfl ⟨rfl, by decide, by decide⟩ (fun w h Y => PySem.W.kIn_of Y) ?F ?S ?C
  case F =>
    intro w mg fa h KX G hmg
    have T : ∃ t, My.Txt (L2.KOf KX) t := by
      dsimp only [L2.KOf]                          -- K must stand as «<heap const> w.params» for k_is
      refine' My.txt_mk ?e1 ?e2 ?e3 ..
      (case e1 => PySem.W.k_is)                    -- in the order: a name -> its address -> its object -> its parts
      (case e2 => PySem.W.k_is)
      ..
    obtain ⟨t, T⟩ := T
    have e0 := hmg.symm.trans (PySem.W.mg_of KX G T.law)
    cases e0                                       -- fa is the law's own address
    exact ⟨_, fun s u => .of_eq rfl, fun base kb nb => My.law_fn T kb nb⟩     -- if «.of_eq rfl» comes too early: refine' ⟨_, ?b, fun base kb nb => My.law_fn T kb nb⟩; exact fun s u => .of_eq rfl
  case S => exact fun w H a ns hl hO hS => ..
  case C => exact ..
(the tactic k_is has no namespace: write k_is) -/

/-! SHORT WORDS over the layer: a def of the text, its body, what a loop and a test want. -/
namespace L2
open PySem PySem.Spec PyProof.Rows

/-! ### the text by places -/
/-- the j-th statement of a class's body -/
def inClass (s : Stmt) (j : Nat) : Stmt := match s with
  | .ClassDef _ _ _ body _ _ _ _ _ _ _ => body.getD j (.Pass ⟨0, 0, 0, 0⟩)
  | _ => .Pass ⟨0, 0, 0, 0⟩
def defArgs (s : Stmt) : Arguments := match s with
  | .FunctionDef _ a _ _ _ _ _ _ _ _ => a
  | _ => { posonlyargs := [], args := [], vararg := none, kwonlyargs := [], kw_defaults := [], kwarg := none, defaults := [] }
def defBody (s : Stmt) : List Stmt := match s with
  | .FunctionDef _ _ b _ _ _ _ _ _ _ => b
  | _ => []
def defScope (s : Stmt) : Scope := match s with
  | .FunctionDef _ _ _ _ _ _ sc _ _ _ => sc
  | _ => { kind := .function, names := [], isGenerator := false, isCoroutine := false }

/-! ### no exception leaves a def -/
abbrev CX0 : CXT := fun _ _ _ _ _ _ => False
abbrev E0 : XK := fun _ _ _ => False
theorem pass0 {X : Cx} : Passes CX0 X E0 := fun _ _ _ _ _ _ _ h => h.elim

/-! ### a def (or method) of the text as it stands behind the top -/
structure Fun (K : PySem.W.Frag) (x qual : Str) (st : Stmt) (f : Addr) (fd : FuncData) : Prop where
  ex : ∃ (oc : Value) (od : Option Addr) (kV doc pm : Value) (an : Option Addr) (cdv ct : Value) (osl : Array (Option Value)),
    fd = PySem.W.fnOf x qual (defArgs st) (defBody st) (defScope st) .none kV doc pm an cdv ct ∧ K.lookup f = some ⟨oc, od, .func fd, osl⟩ ∧ PySem.W.codeIn K cdv qual = true
  kp : PySem.W.keepIn K (.ref f) = true
section
variable {P : Program} {w : World} {K : PySem.W.Frag} {mg : Str → Option Value} {base : Heap}
/-- THE RULE for a def: its body as a term of rules, and the reading of that term -/
theorem Fun.ok {x qual : Str} {st : Stmt} {f : Addr} {fd : FuncData} {N ps : List Str} {k : Nat} {sp : Sp} (F : Fun K x qual st f fd) (S : FnScope N ps (defScope st)) (len : ∀ vs H Q E, sp vs H Q E → vs.length = ps.length)
    (hbody : ∀ (cdv : Value) (A : Around) (outer : List Env) (s : Shared) (H : Hp) (vs : List V) (Q : VK) (E : XK), Room k (A.deeper (envOfC qual (defScope st) s.heap.objs.size f cdv)) → sp vs H Q E →
      ∃ t, PSs (cxOf CX0 P w K mg base N qual (defScope st) f cdv A outer s H E).nox (defBody st) t ∧ t { nx := fun _ H' => Q .non H', rt := Q } (start N vs) H) : FnOk P w K mg base CX0 (k + 1) f fd ps sp := by
  obtain ⟨oc, od, kV, doc, pm, an, cdv, ct, osl, rfl, lk, hcd⟩ := F.ex
  refine fn_of lk hcd S len fun A outer s H vs Q E hr hsp => ?_
  obtain ⟨t, h, q⟩ := hbody cdv A outer s H vs Q E hr hsp
  exact ⟨t, h.nox, q⟩
/-- how its arguments bind (no defaults): h is «fun _ _ _ _ _ _ us hl => match us, hl with | [_, _], _ => rfl», one _ a parameter -/
theorem Fun.binds {x qual : Str} {st : Stmt} {f : Addr} {fd : FuncData} {ps : List Str} (F : Fun K x qual st f fd)
    (h : ∀ (kV doc pm : Value) (an : Option Addr) (cdv ct : Value) (us : List Value), us.length = ps.length → bindArgs (PySem.W.fnOf x qual (defArgs st) (defBody st) (defScope st) .none kV doc pm an cdv ct) ⟨us, []⟩ = pure (ps.zip us)) : Binds K fd ps [] := by
  obtain ⟨oc, od, kV, doc, pm, an, cdv, ct, osl, rfl, lk, hcd⟩ := F.ex
  exact .all (h kV doc pm an cdv ct)
theorem fun_mk {x qual : Str} {st : Stmt} {f : Addr} {oc : Value} {od an : Option Addr} {osl : Array (Option Value)} {kV doc pm cdv ct : Value} (l : K.lookup f = some ⟨oc, od, .func (PySem.W.fnOf x qual (defArgs st) (defBody st) (defScope st) .none kV doc pm an cdv ct), osl⟩)
    (c : PySem.W.codeIn K cdv qual = true) (k : PySem.W.keepIn K (.ref f) = true) : Fun K x qual st f (PySem.W.fnOf x qual (defArgs st) (defBody st) (defScope st) .none kV doc pm an cdv ct) := ⟨⟨oc, od, kV, doc, pm, an, cdv, ct, osl, rfl, l, c⟩, k⟩
end
theorem hu_of {A : Around} {k : Nat} (hr : Room k A) : A.units + 1 < cLine := Nat.lt_of_le_of_lt (Nat.add_le_add_left (by decide : 1 ≤ 64) _) hr.units
theorem small1000 {n : Nat} (h : n ≤ 1000) : n < sizeLine := Nat.lt_of_le_of_lt h (by decide)

/-! ### expressions in short: the name that stands in the i-th slot -/
section
variable {X : Cx}
theorem pv (i : Nat) {x : Str} {pos : Pos} (hN : X.N[i]? = some x := by rfl) (hv : Vis X.env.scope x := by first | exact Or.inl rfl | exact Or.inr (Or.inl rfl) | exact Or.inr (Or.inr rfl)) (hd : (x == ("__debug__" : Str)) = false := by decide)
    (hcd : (x == ("__classdict__" : Str)) = false := by decide) : PE X (.Name x pos) (tVar i) := pe_var hN hv hd hcd
end

/-! ### tests -/
theorem iteF {A B : Prop} (h : B) : if false = true then A else B := by
  rw [if_neg Bool.false_ne_true]
  exact h
theorem iteT {A B : Prop} (h : A) : if true = true then A else B := by
  rw [if_pos rfl]
  exact h
theorem ite2 {c A B : Prop} [Decidable c] (h1 : c → A) (h2 : ¬ c → B) : if c then A else B := by
  by_cases h : c
  · rw [if_pos h]
    exact h1 h
  · rw [if_neg h]
    exact h2 h
theorem iteNS {c A B : Prop} [Decidable c] (hc : c) (h : B) : if (!decide c) = true then A else B := by
  rw [decide_eq_true hc]
  exact iteF h

/-! ### heaps -/
/-- all that was tracked is as it was -/
def Same (H H' : Hp) : Prop := ∀ b o, H b = some o → H' b = some o
theorem Same.refl (H : Hp) : Same H H := fun _ _ h => h
theorem Same.trans {H H1 H2 : Hp} (a : Same H H1) (b : Same H1 H2) : Same H H2 := fun c o h => b c o (a c o h)
theorem Same.free {H H' : Hp} (e : Same H H') {l : Addr} (h : H' l = Option.none) : H l = Option.none := by
  cases q : H l with
  | none => rfl
  | some o =>
    rw [e l o q] at h
    cases h
theorem Same.seq {K : PySem.W.Frag} {H H' : Hp} {a : Addr} {xs : List V} (e : Same H H') (h : SqL K H a xs) : SqL K H' a xs := by
  rcases h with (h | ⟨o, h⟩) | h
  · exact .inl (.inl (e _ _ h))
  · exact .inl (.inr ⟨o, e _ _ h⟩)
  · exact .inr h

end L2

set_option maxHeartbeats 4000000
namespace L2
open PySem PySem.Spec PyProof.Rows

/-! ### lists of pairs as tables -/
section
variable {κ : Type} [DecidableEq κ]
def valV (kvs : List (κ × V)) (k : κ) : Option V := (kvs.find? fun kv => decide (kv.1 = k)).map (·.2)
/-- in its place, or at the end -/
def putK (kvs : List (κ × V)) (k : κ) (v : V) : List (κ × V) :=
  if (kvs.any fun kv => decide (kv.1 = k)) = true then kvs.map (fun kv => if kv.1 = k then (kv.1, v) else kv) else kvs ++ [(k, v)]
def dropK (kvs : List (κ × V)) (k : κ) : List (κ × V) := kvs.filter fun kv => decide (kv.1 ≠ k)

theorem valV_nil {k : κ} : valV ([] : List (κ × V)) k = none := rfl
theorem valV_pos {p : κ × V} {r : List (κ × V)} {k : κ} (e : p.1 = k) : valV (p :: r) k = some p.2 := by simp [valV, List.find?_cons, e]
theorem valV_neg {p : κ × V} {r : List (κ × V)} {k : κ} (e : ¬ p.1 = k) : valV (p :: r) k = valV r k := by simp [valV, List.find?_cons, e]
theorem valV_any (k : κ) : ∀ kvs : List (κ × V), (kvs.any fun kv => decide (kv.1 = k)) = (valV kvs k).isSome
  | [] => rfl
  | p :: r => by
    rw [List.any_cons]
    by_cases e : p.1 = k
    · simp only [valV_pos e, decide_eq_true e, Bool.true_or, Option.isSome_some]
    · rw [valV_neg e, decide_eq_false e, Bool.false_or]; exact valV_any k r
theorem valV_map (k j : κ) (y : V) : ∀ kvs : List (κ × V), valV (kvs.map fun kv => if kv.1 = k then (kv.1, y) else kv) j = (valV kvs j).map fun x => if j = k then y else x
  | [] => rfl
  | p :: r => by
    have ih := valV_map k j y r
    rw [List.map_cons]
    by_cases h : p.1 = k
    · rw [if_pos h]
      by_cases e : p.1 = j
      · rw [valV_pos (p := (p.1, y)) e, valV_pos e, Option.map_some, if_pos (e.symm.trans h)]
      · rw [valV_neg (p := (p.1, y)) e, valV_neg e, ih]
    · rw [if_neg h]
      by_cases e : p.1 = j
      · rw [valV_pos (p := p) e, valV_pos e, Option.map_some, if_neg (fun z => h (e.trans z))]
      · rw [valV_neg (p := p) e, valV_neg e, ih]
theorem valV_snoc (k j : κ) (y : V) : ∀ kvs : List (κ × V), valV kvs k = none → valV (kvs ++ [(k, y)]) j = if j = k then some y else valV kvs j
  | [], _ => by
    by_cases e : k = j
    · rw [if_pos e.symm]; exact valV_pos (p := (k, y)) e
    · rw [if_neg (fun z => e z.symm)]; exact valV_neg (p := (k, y)) e
  | p :: r, hn => by
    rw [List.cons_append]
    have hk : ¬ p.1 = k := fun z => by rw [valV_pos z] at hn; cases hn
    rw [valV_neg hk] at hn
    have ih := valV_snoc k j y r hn
    by_cases e : p.1 = j
    · rw [valV_pos e, valV_pos e, if_neg (fun z => hk (e.trans z))]
    · rw [valV_neg e, valV_neg e, ih]
theorem valV_put (kvs : List (κ × V)) (k j : κ) (y : V) : valV (putK kvs k y) j = if j = k then some y else valV kvs j := by
  unfold putK
  by_cases a : (kvs.any fun kv => decide (kv.1 = k)) = true
  · rw [if_pos a, valV_map]
    rw [valV_any] at a
    by_cases e : j = k
    · obtain ⟨x, hx⟩ := Option.isSome_iff_exists.mp a
      rw [if_pos e, e, hx, Option.map_some, if_pos rfl]
    · rw [if_neg e]
      cases valV kvs j with
      | none => rfl
      | some x => rw [Option.map_some, if_neg e]
  · rw [if_neg a]
    refine valV_snoc k j y kvs ?_
    rw [valV_any] at a
    cases q : valV kvs k with
    | none => rfl
    | some x => rw [q] at a; exact (a rfl).elim
theorem length_putK (kvs : List (κ × V)) (k : κ) (v : V) : (putK kvs k v).length ≤ kvs.length + 1 := by
  unfold putK
  split
  · rw [List.length_map]; omega
  · rw [List.length_append, List.length_cons, List.length_nil]; omega
theorem putK_new {kvs : List (κ × V)} {k : κ} (v : V) (h : valV kvs k = none) : putK kvs k v = kvs ++ [(k, v)] := by
  unfold putK
  rw [valV_any, h]
  exact if_neg (by decide)

theorem RelO.isSome_eq {o : Option V} {u : Option Value} (r : RelO o u) : o.isSome = u.isSome := by
  cases o with
  | none => cases u with
    | none => rfl
    | some _ => exact (show False from r).elim
  | some _ => cases u with
    | none => exact (show False from r).elim
    | some _ => rfl
theorem RelO.getD {o : Option V} {u : Option Value} {d : V} {d' : Value} (r : RelO o u) (rd : RelV d d') : RelV (o.getD d) (u.getD d') := by
  cases o with
  | none => cases u with
    | none => exact rd
    | some _ => exact (show False from r).elim
  | some _ => cases u with
    | none => exact (show False from r).elim
    | some _ => exact r

/-- raw tables of the same keys -/
theorem KV.val {kvs : List (κ × V)} {vs : List (κ × Value)} (r : KV kvs vs) (k : κ) : RelO (valV kvs k) (valueAt vs k) := by
  unfold KV at r
  induction r with
  | nil => exact True.intro
  | @cons p q ps qs h t ih =>
    obtain ⟨h1, h2⟩ := h
    by_cases e : p.1 = k
    · have e' : q.1 = k := h1.symm.trans e
      have b : valueAt (q :: qs) k = some q.2 := by simp [valueAt, List.find?_cons, e']
      rw [valV_pos e, b]; exact h2
    · have e' : ¬ q.1 = k := fun z => e (h1.trans z)
      have b : valueAt (q :: qs) k = valueAt qs k := by simp [valueAt, List.find?_cons, e']
      rw [valV_neg e, b]; exact ih
theorem KV.any {kvs : List (κ × V)} {vs : List (κ × Value)} (r : KV kvs vs) (k : κ) : (kvs.any fun kv => decide (kv.1 = k)) = vs.any fun kv => decide (kv.1 = k) := by
  unfold KV at r
  induction r with
  | nil => rfl
  | cons h t ih => rw [List.any_cons, List.any_cons, ih, h.1]
theorem KV.repl {kvs : List (κ × V)} {vs : List (κ × Value)} (r : KV kvs vs) (k : κ) {y : V} {u : Value} (ry : RelV y u) :
    KV (kvs.map fun kv => if kv.1 = k then (kv.1, y) else kv) (vs.map fun kv => if kv.1 = k then (kv.1, u) else kv) := by
  unfold KV at r ⊢
  induction r with
  | nil => exact .nil
  | @cons p q ps qs h t ih =>
    rw [List.map_cons, List.map_cons]
    refine .cons ?_ ih
    obtain ⟨h1, h2⟩ := h
    by_cases e : p.1 = k
    · rw [if_pos e, if_pos (h1.symm.trans e)]; exact ⟨h1, ry⟩
    · rw [if_neg e, if_neg (fun z => e (h1.trans z))]; exact ⟨h1, h2⟩
theorem KV.put {kvs : List (κ × V)} {vs : List (κ × Value)} (r : KV kvs vs) (k : κ) {y : V} {u : Value} (ry : RelV y u) : KV (putK kvs k y) (stored vs k u) := by
  unfold putK stored
  rw [r.any k]
  by_cases e : (vs.any fun kv => decide (kv.1 = k)) = true
  · rw [if_pos e, if_pos e]; exact r.repl k ry
  · rw [if_neg e, if_neg e]; exact Paired.snoc r ⟨rfl, ry⟩
theorem KV.drop {kvs : List (κ × V)} {vs : List (κ × Value)} (r : KV kvs vs) (k : κ) : KV (dropK kvs k) (without vs k) := by
  unfold KV at r ⊢
  unfold dropK without
  induction r with
  | nil => exact .nil
  | @cons p q ps qs h t ih =>
    obtain ⟨h1, h2⟩ := h
    rw [List.filter_cons, List.filter_cons]
    by_cases e : p.1 = k
    · have a : ¬ decide (p.1 ≠ k) = true := by simp [e]
      have b : ¬ decide (q.1 ≠ k) = true := by simp [h1.symm.trans e]
      rw [if_neg a, if_neg b]; exact ih
    · have e' : ¬ q.1 = k := fun z => e (h1.trans z)
      have a : decide (p.1 ≠ k) = true := by simp [e]
      have b : decide (q.1 ≠ k) = true := by simp [e']
      rw [if_pos a, if_pos b]; exact .cons ⟨h1, h2⟩ ih
theorem KV.keys {kvs : List (κ × V)} {vs : List (κ × Value)} (r : KV kvs vs) : kvs.map (·.1) = vs.map (·.1) := by
  unfold KV at r
  induction r with
  | nil => rfl
  | cons h t ih => rw [List.map_cons, List.map_cons, ih, h.1]
theorem KV.length {kvs : List (κ × V)} {vs : List (κ × Value)} (r : KV kvs vs) : kvs.length = vs.length := Paired.length r
theorem dropK_le (kvs : List (κ × V)) (k : κ) : (dropK kvs k).length ≤ kvs.length := List.length_filter_le _ _
end


/-! ### a tracked dict, its keys ints and texts or tuples of these -/
theorem kV_is {P : Program} {w : World} {k : Key} {u : Value} (r : RelV (kV k) u) : (mixKind P w).is k u = true := by
  cases k with
  | inl i => obtain ⟨t, e⟩ := (show ∃ t, u = Value.int i t from r); subst e; exact mixKind_int P w i t
  | inr x => obtain ⟨t, e⟩ := (show ∃ t, u = Value.str x t from r); subst e; exact mixKind_str P w x t
theorem kV_inj {a b : Key} (e : kV a = kV b) : a = b := by
  cases a with
  | inl i => cases b with
    | inl j => have e' : V.int i = V.int j := e; injection e' with e'; rw [e']
    | inr y => exact nomatch (show V.int i = V.str y from e)
  | inr x => cases b with
    | inl j => exact nomatch (show V.str x = V.int j from e)
    | inr y => have e' : V.str x = V.str y := e; injection e' with e'; rw [e']
theorem kVs_inj : ∀ {a b : List Key}, a.map kV = b.map kV → a = b
  | [], [], _ => rfl
  | [], _ :: _, e => by simp at e
  | _ :: _, [], e => by simp at e
  | x :: xs, y :: ys, e => by
    rw [List.map_cons, List.map_cons] at e
    injection e with e1 e2
    rw [kV_inj e1, kVs_inj e2]
theorem items_are {P : Program} {w : World} : ∀ {ks : List Key} {us : List Value}, Vals (ks.map kV) us → ItemsAre (mixKind P w) ks us
  | [], _, r => by rw [List.map_nil] at r; cases r; exact .nil
  | k :: ks, _, r => by
    rw [List.map_cons] at r
    cases r with
    | cons h t => exact .cons (kV_is h) (items_are t)

/-- raw entries of a dict with tuple keys -/
abbrev KT (H : Hp) : List (List Key × V) → List (List Key × Addr × Value) → Prop := Paired fun p q => p.1 = q.1 ∧ H q.2.1 = some (.tup (p.1.map kV)) ∧ RelV p.2 q.2.2
theorem KT.val {H : Hp} {kvs : List (List Key × V)} {xs : List (List Key × Addr × Value)} (r : KT H kvs xs) (k : List Key) : RelO (valV kvs k) ((atKey xs k).map (·.2)) := by
  induction r with
  | nil => exact True.intro
  | @cons p q ps qs h t ih =>
    obtain ⟨h1, _, h2⟩ := h
    by_cases e : p.1 = k
    · have e' : q.1 = k := h1.symm.trans e
      have b : atKey (q :: qs) k = some q.2 := by simp [atKey, List.find?_cons, e']
      rw [valV_pos e, b]; exact h2
    · have e' : ¬ q.1 = k := fun z => e (h1.trans z)
      have b : atKey (q :: qs) k = atKey qs k := by simp [atKey, List.find?_cons, e']
      rw [valV_neg e, b]; exact ih
theorem KT.repl {H : Hp} {kvs : List (List Key × V)} {xs : List (List Key × Addr × Value)} (r : KT H kvs xs) (k : List Key) {y : V} {u : Value} (ry : RelV y u) :
    KT H (kvs.map fun kv => if kv.1 = k then (kv.1, y) else kv) (xs.map (putAt k u)) := by
  induction r with
  | nil => exact .nil
  | @cons p q ps qs h t ih =>
    rw [List.map_cons, List.map_cons]
    refine .cons ?_ ih
    obtain ⟨h1, h2, h3⟩ := h
    unfold putAt
    by_cases e : p.1 = k
    · rw [if_pos e, if_pos (h1.symm.trans e)]; exact ⟨h1, h2, ry⟩
    · rw [if_neg e, if_neg (fun z => e (h1.trans z))]; exact ⟨h1, h2, h3⟩
theorem KT.put {H : Hp} {kvs : List (List Key × V)} {xs : List (List Key × Addr × Value)} (r : KT H kvs xs) (k : List Key) {b : Addr} {y : V} {u : Value} (hb : H b = some (.tup (k.map kV))) (ry : RelV y u) :
    KT H (putK kvs k y) (storedH xs k b u) := by
  have e : (kvs.any fun kv => decide (kv.1 = k)) = (atKey xs k).isSome := by
    rw [valV_any, (r.val k).isSome_eq, Option.isSome_map]
  unfold putK storedH
  rw [e]
  by_cases q : (atKey xs k).isSome = true
  · rw [if_pos q, if_pos q]; exact r.repl k ry
  · rw [if_neg q, if_neg q]; exact Paired.snoc r ⟨rfl, hb, ry⟩
theorem KT.keeps {H H' : Hp} {kvs : List (List Key × V)} {xs : List (List Key × Addr × Value)} (r : KT H kvs xs) (ht : ∀ b ys, H b = some (.tup ys) → H' b = some (.tup ys)) : KT H' kvs xs :=
  Paired.mapP r fun _ _ z => ⟨z.1, ht _ _ z.2.1, z.2.2⟩

section
variable {P : Program} {w : World} {H : Hp} {h : Heap} {a : Addr}
theorem rd_of {u : HO} (ok : HOk P w H h) (e : Rd H a u) : ObjOk P w H h a u := e.ok ok
theorem dk_rd {kvs : List (Key × V)} (ok : HOk P w H h) (e : Rd H a (.dK kvs)) : kvs.length ≤ sizeLine ∧ (a == sysModules) = false ∧ ∃ vs, KV kvs vs ∧ h.DictOf (mixKind P w) a vs :=
  show ObjOk P w H h a (.dK kvs) from rd_of ok e
theorem dk_of {kvs : List (Key × V)} (ok : HOk P w H h) (e : H a = some (.dK kvs)) : kvs.length ≤ sizeLine ∧ (a == sysModules) = false ∧ ∃ vs, KV kvs vs ∧ h.DictOf (mixKind P w) a vs := dk_rd ok (.inl e)
/-- a tracked tuple of ints and texts is a key -/
theorem key_of {ks : List Key} (ok : HOk P w H h) (e : H a = some (.tup (ks.map kV))) : (tupleKind (mixKind P w)).is h ks a := by
  obtain ⟨_, its, r, o, h1, h2, n, h3⟩ := (show ObjOk P w H h a (.tup (ks.map kV)) from ok a _ e)
  exact ⟨o, its.toArray, n, h1, h2, h3, by simpa using items_are r⟩
theorem dt_rd {kvs : List (List Key × V)} (ok : HOk P w H h) (e : Rd H a (.dT kvs)) : kvs.length ≤ sizeLine ∧ (a == sysModules) = false ∧
    ∃ xs, KT H kvs xs ∧ h.DictOfH (tupleKind (mixKind P w)) a xs := by
  obtain ⟨z, y, xs, r, o, es, ep, h1, h2, h3, h4, h5⟩ := (show ObjOk P w H h a (.dT kvs) from rd_of ok e)
  refine ⟨z, y, xs, r, o, es, ep, h1, h2, h3, h4, fun x hx => ?_, h5⟩
  have all : ∀ {l : List (List Key × V)} {m : List (List Key × Addr × Value)}, KT H l m → ∀ x ∈ m, (tupleKind (mixKind P w)).is h x.1 x.2.1 := by
    intro l m q
    induction q with
    | nil => intro x hx; exact nomatch hx
    | @cons p q ps qs hq t ih =>
      intro x hx
      rcases List.mem_cons.mp hx with e | hx
      · subst e
        exact key_of ok (by rw [← hq.1]; exact hq.2.1)
      · exact ih x hx
  exact all r x hx
theorem dt_of {kvs : List (List Key × V)} (ok : HOk P w H h) (e : H a = some (.dT kvs)) : kvs.length ≤ sizeLine ∧ (a == sysModules) = false ∧
    ∃ xs, KT H kvs xs ∧ h.DictOfH (tupleKind (mixKind P w)) a xs := dt_rd ok (.inl e)
end

/-- what the dict at a holds at the key y -/
def DGet (H : Hp) (a : Addr) (y : V) (r : Option V) : Prop :=
  (∃ kvs k, Rd H a (.dK kvs) ∧ y = kV k ∧ r = valV kvs k) ∨ ∃ kvs k b, Rd H a (.dT kvs) ∧ y = .ref b ∧ H b = some (.tup (k.map kV)) ∧ r = valV kvs k
/-- the heap behind a[y] = v -/
def DPut (H : Hp) (a : Addr) (y v : V) (H' : Hp) : Prop :=
  (∃ kvs k, H a = some (.dK kvs) ∧ y = kV k ∧ kvs.length < sizeLine ∧ H' = upd H a (.dK (putK kvs k v))) ∨
  ∃ kvs k b, H a = some (.dT kvs) ∧ y = .ref b ∧ H b = some (.tup (k.map kV)) ∧ kvs.length < sizeLine ∧ H' = upd H a (.dT (putK kvs k v))
theorem DGet.k {H : Hp} {a : Addr} {kvs : List (Key × V)} {k : Key} (e : H a = some (.dK kvs)) : DGet H a (kV k) (valV kvs k) := .inl ⟨kvs, k, .inl e, rfl, rfl⟩
theorem DGet.t {H : Hp} {a b : Addr} {kvs : List (List Key × V)} {k : List Key} (e : H a = some (.dT kvs)) (eb : H b = some (.tup (k.map kV))) : DGet H a (.ref b) (valV kvs k) := .inr ⟨kvs, k, b, .inl e, rfl, eb, rfl⟩
theorem DPut.k {H : Hp} {a : Addr} {kvs : List (Key × V)} {k : Key} {v : V} (e : H a = some (.dK kvs)) (hl : kvs.length < sizeLine) : DPut H a (kV k) v (upd H a (.dK (putK kvs k v))) := .inl ⟨kvs, k, e, rfl, hl, rfl⟩
theorem DPut.t {H : Hp} {a b : Addr} {kvs : List (List Key × V)} {k : List Key} {v : V} (e : H a = some (.dT kvs)) (eb : H b = some (.tup (k.map kV))) (hl : kvs.length < sizeLine) :
    DPut H a (.ref b) v (upd H a (.dT (putK kvs k v))) := .inr ⟨kvs, k, b, e, rfl, eb, hl, rfl⟩


section
variable {X : Cx} {pins : List (Addr × Obj)} {σ : St} {H : Hp} {s : Shared} {a : Addr} {y v : V} {u r : Value} {o : Option V} {A : Around} {E : Value → Shared → Prop}

theorem Inv.big (I : Inv X pins σ H s) : sysModules < s.heap.objs.size := by
  have h : mainGlobals < s.heap.objs.size := (I.mod.glob.keeps I.bk).lt
  exact Nat.lt_trans (by decide) h

/-- d[y], there -/
theorem d_getItem {Q : Value → Shared → Prop} (hu : A.units + 1 < cLine) (I : Inv X pins σ H s) (g : DGet H a y (some v)) (ry : RelV y u) (h : ∀ w' s', Inv X pins σ H s' → RelV v w' → Q w' s') :
    wpAny (model X.prog X.w) A (getItem (.ref a) u) Q E s := by
  rcases g with ⟨kvs, k, e, ey, l⟩ | ⟨kvs, k, b, e, ey, eb, l⟩
  · subst ey
    obtain ⟨z, hd, vs, rel, dd⟩ := dk_rd I.hok e
    obtain ⟨w', hw, rw'⟩ := RelO.some_of (v := v) (o := valueAt vs k) (by rw [l]; exact rel.val k)
    exact wpAny_getItem_of (kV_is ry) dd.mapOf hw (h w' _ (I.tok _) rw')
  · subst ey
    cases (show u = Value.ref b from ry)
    obtain ⟨z, hd, xs, rel, dd⟩ := dt_rd I.hok e
    obtain ⟨w', hw, rw'⟩ := RelO.some_of (v := v) (o := (atKey xs k).map (·.2)) (by rw [l]; exact rel.val k)
    obtain ⟨p, hp, hp2⟩ := Option.map_eq_some_iff.mp hw
    refine wpAny_getItem_heap (tupleKind_room_in1 hu) (key_of I.hok eb) dd hp ?_
    rw [hp2]
    exact h w' _ (I.tok _) rw'
/-- y in d -/
theorem d_in {Q : Value → Shared → Prop} (hu : A.units + 1 < cLine) (I : Inv X pins σ H s) (g : DGet H a y o) (ry : RelV y u) (h : ∀ s', Inv X pins σ H s' → Q (.bool o.isSome) s') :
    wpAny (model X.prog X.w) A (compareOp .In u (.ref a)) Q E s := by
  rcases g with ⟨kvs, k, e, ey, l⟩ | ⟨kvs, k, b, e, ey, eb, l⟩
  · subst ey
    obtain ⟨z, hd, vs, rel, dd⟩ := dk_rd I.hok e
    refine wpAny_in_of (kV_is ry) hd dd.mapOf ?_
    rw [← (rel.val k).isSome_eq, ← l]
    exact h _ (I.tok _)
  · subst ey
    cases (show u = Value.ref b from ry)
    obtain ⟨z, hd, xs, rel, dd⟩ := dt_rd I.hok e
    refine wpAny_in_heap (tupleKind_room_in1 hu) (key_of I.hok eb) hd dd ?_
    have q := (rel.val k).isSome_eq
    rw [Option.isSome_map] at q
    rw [← q, ← l]
    exact h _ (I.tok _)
theorem d_notIn {Q : Value → Shared → Prop} (hu : A.units + 1 < cLine) (I : Inv X pins σ H s) (g : DGet H a y o) (ry : RelV y u) (h : ∀ s', Inv X pins σ H s' → Q (.bool (!o.isSome)) s') :
    wpAny (model X.prog X.w) A (compareOp .NotIn u (.ref a)) Q E s := by
  rcases g with ⟨kvs, k, e, ey, l⟩ | ⟨kvs, k, b, e, ey, eb, l⟩
  · subst ey
    obtain ⟨z, hd, vs, rel, dd⟩ := dk_rd I.hok e
    refine wpAny_notIn_of (kV_is ry) hd dd.mapOf ?_
    rw [← (rel.val k).isSome_eq, ← l]
    exact h _ (I.tok _)
  · subst ey
    cases (show u = Value.ref b from ry)
    obtain ⟨z, hd, xs, rel, dd⟩ := dt_rd I.hok e
    refine wpAny_notIn_heap (tupleKind_room_in1 hu) (key_of I.hok eb) hd dd ?_
    have q := (rel.val k).isSome_eq
    rw [Option.isSome_map] at q
    rw [← q, ← l]
    exact h _ (I.tok _)
/-- a dict's object is replaced -/
theorem d_write {h' : Heap} {t' : Nat} {ob : HO} (I : Inv X pins σ H s) (mu : Mut (H a)) (hs : Heap.SameBut a s.heap h') (he : ∃ q, h'.get? a = some q) (new : ObjOk X.prog X.w (upd H a ob) h' a ob) :
    Inv X pins σ (upd H a ob) { s with heap := h', toks := t' } :=
  I.write (x := a) (e := a) mu (.inl rfl) (fun b q hb z => (hs.2 b hb).trans z) he new
theorem dk_new {P : Program} {w : World} {H' : Hp} {h' : Heap} {kvs : List (Key × V)} {vs : List (Key × Value)} (z : kvs.length ≤ sizeLine) (hd : (a == sysModules) = false) (rel : KV kvs vs) (dd : h'.DictOf (mixKind P w) a vs) :
    ObjOk P w H' h' a (.dK kvs) := ⟨z, hd, vs, rel, dd⟩
/-- d[y] = v -/
theorem d_setItem {H' : Hp} {Q : Unit → Shared → Prop} (hu : A.units + 1 < cLine) (I : Inv X pins σ H s) (g : DPut H a y v H') (ry : RelV y u) (rv : RelV v r) (h : ∀ s', Inv X pins σ H' s' → Q () s') :
    wpAny (model X.prog X.w) A (setItem (.ref a) u r) Q E s := by
  rcases g with ⟨kvs, k, e, ey, l, eH⟩ | ⟨kvs, k, b, e, ey, eb, l, eH⟩
  · subst ey eH
    obtain ⟨z, hd, vs, rel, dd⟩ := dk_of I.hok e
    have hz : vs.length ≤ sizeLine := by rw [← rel.length]; exact z
    have hl : (putK kvs k v).length ≤ sizeLine := by have := length_putK kvs k v; omega
    refine wpAny_setItem_pairs (hsz := hz) (kV_is ry) dd fun h' dd' hs => h _ ?_
    have he : ∃ q, h'.get? a = some q := let ⟨q, _, _, hq, _⟩ := dd'; ⟨q, hq⟩
    exact d_write I (by rw [e]; exact True.intro) hs he (dk_new hl hd (rel.put k rv) dd')
  · subst ey eH
    cases (show u = Value.ref b from ry)
    obtain ⟨z, hd, xs, rel, dd⟩ := dt_of I.hok e
    have hz : xs.length ≤ sizeLine := by rw [← Paired.length rel]; exact z
    have hl : (putK kvs k v).length ≤ sizeLine := by have := length_putK kvs k v; omega
    refine wpAny_setItem_heap (hsz := hz) (tupleKind_room_in1 hu) (key_of I.hok eb) dd fun h' dd' hs => h _ ?_
    obtain ⟨q, es, ep, hq, h2, h3, h4, _, h5⟩ := dd'
    refine d_write I (by rw [e]; exact True.intro) hs ⟨q, hq⟩ ⟨hl, hd, _, (rel.put k eb rv).keeps fun c ys ec => ?_, q, es, ep, hq, h2, h3, h4, h5⟩
    rw [upd_ne (ne_of ec e (fun z => nomatch z))]
    exact ec
end

section
variable {X : Cx} {pins : List (Addr × Obj)} {σ : St} {H : Hp} {s : Shared} {a : Addr} {kvs : List (Key × V)} {k : Key} {u : Value} {A : Around} {E : Value → Shared → Prop}
/-- del d[k] -/
theorem d_delItem {Q : Unit → Shared → Prop} (I : Inv X pins σ H s) (e : H a = some (.dK kvs)) (ry : RelV (kV k) u) (l : (valV kvs k).isSome = true) (h : ∀ s', Inv X pins σ (upd H a (.dK (dropK kvs k))) s' → Q () s') :
    wpAny (model X.prog X.w) A (delItem (.ref a) u) Q E s := by
  obtain ⟨z, hd, vs, rel, dd⟩ := dk_of I.hok e
  refine wpAny_delItem_slot dd.typeIs (by decide) PySem.F.slot_dict_delitem
    (call_meetsIn PySem.F.slot_dict_delitem dd.typeIs PySem.F.entry_dict_delitem (PySem.F.args_dict_delitem_2 _ _) (meets_dict_delitem_pairs (mixKind X.prog X.w) a (kV_is ry)) ⟨vs, dd, by rw [← rel.length]; exact z, by rw [← (rel.val k).isSome_eq]; exact l, fun h' dd' hs => h _ ?_⟩)
  have he : ∃ q, h'.get? a = some q := let ⟨q, _, _, hq, _⟩ := dd'; ⟨q, hq⟩
  exact d_write I (by rw [e]; exact True.intro) hs he (dk_new (Nat.le_trans (dropK_le kvs k) z) hd (rel.drop k) dd')
/-- d.pop(k[, x]), there -/
theorem d_pop {v : V} {more : List Value} {Q : Value → Shared → Prop} (I : Inv X pins σ H s) (e : H a = some (.dK kvs)) (ry : RelV (kV k) u) (l : valV kvs k = some v) (hm : more = [] ∨ ∃ x, more = [x])
    (h : ∀ w' s', Inv X pins σ (upd H a (.dK (dropK kvs k))) s' → RelV v w' → Q w' s') : wpAny (model X.prog X.w) A (call (.builtin "dict.pop") (.ref a :: u :: more)) Q E s := by
  obtain ⟨z, hd, vs, rel, dd⟩ := dk_of I.hok e
  obtain ⟨w', hw, rw'⟩ := RelO.some_of (v := v) (o := valueAt vs k) (by rw [← l]; exact rel.val k)
  have hp : (keyPart u).isSome = true := by
    cases k with
    | inl i => obtain ⟨t, q⟩ := (show ∃ t, u = Value.int i t from ry); subst q; rfl
    | inr x => obtain ⟨t, q⟩ := (show ∃ t, u = Value.str x t from ry); subst q; rfl
  have ha : argsOk "dict.pop" ⟨.ref a :: u :: more, []⟩ := by
    rcases hm with q | ⟨x, q⟩
    · subst q; exact PySem.F.args_dict_pop_2 _ _
    · subst q; exact PySem.F.args_dict_pop_3 _ _ _
  refine call_meetsIn PySem.F.slot_dict_pop dd.typeIs PySem.F.entry_dict_pop ha (meets_dict_pop_there (mixKind X.prog X.w) a (kV_is ry) more hm hp)
    ⟨vs, w', dd, by rw [← rel.length]; exact z, hw, fun h' dd' hs => h w' _ ?_ rw'⟩
  have he : ∃ q, h'.get? a = some q := let ⟨q, _, _, hq, _⟩ := dd'; ⟨q, hq⟩
  exact d_write I (by rw [e]; exact True.intro) hs he (dk_new (Nat.le_trans (dropK_le kvs k) z) hd (rel.drop k) dd')
/-- d.pop(k, x), not there -/
theorem d_popD {r : Value} {Q : Value → Shared → Prop} (I : Inv X pins σ H s) (e : H a = some (.dK kvs)) (ry : RelV (kV k) u) (l : valV kvs k = none) (h : ∀ s', Inv X pins σ H s' → Q r s') :
    wpAny (model X.prog X.w) A (call (.builtin "dict.pop") [.ref a, u, r]) Q E s := by
  obtain ⟨z, hd, vs, rel, dd⟩ := dk_of I.hok e
  have hn : valueAt vs k = none := RelO.none_of (by rw [← l]; exact rel.val k)
  have hp : (keyPart u).isSome = true := by
    cases k with
    | inl i => obtain ⟨t, q⟩ := (show ∃ t, u = Value.int i t from ry); subst q; rfl
    | inr x => obtain ⟨t, q⟩ := (show ∃ t, u = Value.str x t from ry); subst q; rfl
  exact call_meetsIn PySem.F.slot_dict_pop dd.typeIs PySem.F.entry_dict_pop (PySem.F.args_dict_pop_3 _ _ _) (meets_dict_pop_default (mixKind X.prog X.w) a (kV_is ry) hd hp r) ⟨vs, dd, hn, h _ (I.tok _)⟩
/-- d.clear() -/
theorem d_clear {Q : Value → Shared → Prop} (I : Inv X pins σ H s) (e : H a = some (.dK kvs)) (h : ∀ s', Inv X pins σ (upd H a (.dK [])) s' → Q .none s') : wpAny (model X.prog X.w) A (call (.builtin "dict.clear") [.ref a]) Q E s := by
  obtain ⟨z, hd, vs, rel, dd⟩ := dk_of I.hok e
  refine call_meetsIn PySem.F.slot_dict_clear dd.typeIs PySem.F.entry_dict_clear (PySem.F.args_dict_clear_1 _) (meets_dict_clear (mixKind X.prog X.w) a) ⟨vs, dd, by rw [← rel.length]; exact z, fun h' dd' hs => h _ ?_⟩
  have he : ∃ q, h'.get? a = some q := let ⟨q, _, _, hq, _⟩ := dd'; ⟨q, hq⟩
  exact d_write (t' := s.toks) I (by rw [e]; exact True.intro) hs he (dk_new (Nat.zero_le _) hd .nil dd')
/-- len(d) -/
theorem d_len {Q : Value → Shared → Prop} (I : Inv X pins σ H s) (e : Rd H a (.dK kvs)) (h : ∀ t s', Inv X pins σ H s' → Q (.int kvs.length t) s') : wpAny (model X.prog X.w) A (call (.builtin "len") [.ref a]) Q E s := by
  obtain ⟨z, hd, vs, rel, dd⟩ := dk_rd I.hok e
  refine call_len_dict hd dd (by rw [← rel.length]; rw [sizeLine_eq] at z; omega) ?_
  rw [← rel.length]
  exact h _ _ (I.tok _)
/-- if d -/
theorem d_truth {Q : Bool → Shared → Prop} (I : Inv X pins σ H s) (e : Rd H a (.dK kvs)) (h : ∀ s', Inv X pins σ H s' → Q (!kvs.isEmpty) s') : wpAny (model X.prog X.w) A (truthy (.ref a)) Q E s := by
  obtain ⟨z, hd, vs, rel, dd⟩ := dk_rd I.hok e
  refine wpAny_truthy_dict hd dd (by rw [← rel.length]; rw [sizeLine_eq] at z; omega) ?_
  have q : kvs.isEmpty = vs.isEmpty := by cases rel <;> rfl
  rw [← q]
  exact h _ (I.tok _)
end


/-! ### readings and rules -/
/-- the element of a subscription, not a slice -/
def NoSl (i : Expr) : Prop := ∀ ov iv, subscripted i false ov iv = operate [ov, iv] (getItem ov iv)
theorem subD_of {prog : Program} {w : World} {A : Around} {E : Value → Shared → Prop} {s : Shared} {env : Env} {value slice : Expr} {pos : Pos} {T id : String} {Q : Value → Shared → Prop}
    (hl : typeLookup (.type T) "__getitem__" = pure (some (.builtin id))) (hs : NoSl slice)
    (h : wpAny (model prog w) A (eval value env) (fun o s₁ => wpAny (model prog w) A (eval slice env) (fun i s₂ => s₂.TypeIs o T ∧ wpAny (model prog w) A (getItem o i) Q E s₂) E s₁) E s) :
    wpAny (model prog w) A (eval (.Subscript value slice pos) env) Q E s := by
  refine Subscript_ (wpAny_mono h (fun o s₁ h₁ => wpAny_mono h₁ (fun i s₂ h₂ => ?_) fun _ _ x => x) fun _ _ x => x)
  obtain ⟨hT, h₂⟩ := h₂
  unfold subscriptTail
  refine wpAny_bind ?_
  rw [getitemInPython_of_ne hT.not_modules]
  refine wpAny_bind (wpAny_specialOf hT hl ?_)
  have fin : wpAny (model prog w) A (subscripted slice false o i) (fun r s₃ => wpAny (model prog w) A (letTemporaryGo value o r >>= fun _ => pure r) Q E s₃) E s₂ := by
    rw [hs o i]
    exact wpAny_operating (wpAny_mono h₂ (fun r s₃ h₃ => wpAny_bind (wpAny_letTemporaryGo (wpAny_pure h₃))) fun _ _ x => x)
  first
    | exact wpAny_pure (wpAny_bind fin)
    | exact wpAny_bind (wpAny_pure (wpAny_bind fin))
    | exact wpAny_bind fin

theorem dict_typeIs {X : Cx} {pins : List (Addr × Obj)} {σ : St} {H : Hp} {s : Shared} {a : Addr} {y : V} {o : Option V} (I : Inv X pins σ H s) (g : DGet H a y o) : s.TypeIs (.ref a) "dict" := by
  rcases g with ⟨kvs, k, e, _, _⟩ | ⟨kvs, k, b, e, _, _, _⟩
  · obtain ⟨_, _, vs, _, dd⟩ := dk_rd I.hok e
    exact dd.typeIs
  · obtain ⟨_, _, xs, _, dd⟩ := dt_rd I.hok e
    exact dd.typeIs
theorem dict_noDict {X : Cx} {pins : List (Addr × Obj)} {σ : St} {H : Hp} {s : Shared} {a : Addr} {y : V} {o : Option V} (I : Inv X pins σ H s) (g : DGet H a y o) :
    ∀ b, Value.ref a = .ref b → ∃ ob, s.heap.get? b = some ob ∧ ob.dict = none := fun b q => by
  cases q
  rcases g with ⟨kvs, k, e, _, _⟩ | ⟨kvs, k, b, e, _, _, _⟩
  · obtain ⟨_, _, vs, _, ob, _, _, h1, h2, _⟩ := dk_rd I.hok e
    exact ⟨ob, h1, h2.2.1⟩
  · obtain ⟨_, _, xs, _, ob, _, _, h1, h2, _⟩ := dt_rd I.hok e
    exact ⟨ob, h1, h2.2.1⟩

/-- d[y] -/
def tDGet (td ty : TE) : TE := fun σ H Q => td σ H fun x H1 => ty σ H1 fun y H2 => ∃ a v, x = .ref a ∧ DGet H2 a y (some v) ∧ Q v H2
/-- y in d, y not in d -/
def tDIn (ty td : TE) : TE := fun σ H Q => ty σ H fun y H1 => td σ H1 fun x H2 => ∃ a o, x = .ref a ∧ DGet H2 a y o ∧ Q (.bl o.isSome) H2
def tDNotIn (ty td : TE) : TE := fun σ H Q => ty σ H fun y H1 => td σ H1 fun x H2 => ∃ a o, x = .ref a ∧ DGet H2 a y o ∧ Q (.bl (!o.isSome)) H2
/-- d[y] = v -/
def sDPut (td ty tv : TE) : TS := fun D σ H => tv σ H fun v H1 => td σ H1 fun x H2 => ty σ H2 fun y H3 => ∃ a H4, x = .ref a ∧ DPut H3 a y v H4 ∧ D.nx σ H4
/-- d[y] op= v -/
def sDAug (td ty tv : TE) (rd : V → V → Hp → VK → Prop) : TS := fun D σ H => td σ H fun x H1 => ty σ H1 fun y H2 => ∃ a v, x = .ref a ∧ DGet H2 a y (some v) ∧
  tv σ H2 fun y2 H3 => rd v y2 H3 fun z H4 => ∃ H5, DPut H4 a y z H5 ∧ D.nx σ H5
/-- del d[y] -/
def sDDel (td ty : TE) : TS := fun D σ H => td σ H fun x H1 => ty σ H1 fun y H2 => ∃ a kvs k, x = .ref a ∧ H2 a = some (.dK kvs) ∧ y = kV k ∧ (valV kvs k).isSome = true ∧ D.nx σ (upd H2 a (.dK (dropK kvs k)))

section
variable {X : Cx} {o i e value : Expr} {pos pos' tpos : Pos} {td ty tv : TE}
theorem pe_dget (hu : X.A.units + 1 < cLine) (ho : PE X o td) (hi : PE X i ty) (hs : NoSl i) : PE X (.Subscript o i pos) (tDGet td ty) := by
  intro pins s σ H Q I h
  refine subD_of PySem.F.slot_dict_getitem.lookup hs (thn (ho pins s σ H _ I h) fun u s1 ⟨x, H1, I1, rx, q1⟩ => thn (hi pins s1 σ H1 _ I1 q1) fun iv s2 ⟨y, H2, I2, ry, a, v, ex, g, q2⟩ => ?_)
  subst ex
  obtain rfl : u = Value.ref a := rx
  exact ⟨dict_typeIs I2 g, d_getItem hu I2 g ry fun w' s3 I3 rw' => ⟨v, H2, I3, rw', q2⟩⟩
theorem pc_din (hu : X.A.units + 1 < cLine) (hi : PE X i ty) (ho : PE X o td) : PC X .In i o (tDIn ty td) := by
  intro pins s σ H Q I h
  refine thn (hi pins s σ H _ I h) fun iv s1 ⟨y, H1, I1, ry, q1⟩ => thn (ho pins s1 σ H1 _ I1 q1) fun u s2 ⟨x, H2, I2, rx, a, ov, ex, g, q2⟩ => ?_
  subst ex
  obtain rfl : u = Value.ref a := rx
  exact d_in hu I2 g ry fun s3 I3 => ⟨.bl ov.isSome, H2, I3, rfl, q2⟩
theorem pc_dnotin (hu : X.A.units + 1 < cLine) (hi : PE X i ty) (ho : PE X o td) : PC X .NotIn i o (tDNotIn ty td) := by
  intro pins s σ H Q I h
  refine thn (hi pins s σ H _ I h) fun iv s1 ⟨y, H1, I1, ry, q1⟩ => thn (ho pins s1 σ H1 _ I1 q1) fun u s2 ⟨x, H2, I2, rx, a, ov, ex, g, q2⟩ => ?_
  subst ex
  obtain rfl : u = Value.ref a := rx
  exact d_notIn hu I2 g ry fun s3 I3 => ⟨.bl (!ov.isSome), H2, I3, rfl, q2⟩
theorem ps_dput (hu : X.A.units + 1 < cLine) (ho : PE X o td) (hi : PE X i ty) (hv : PE X value tv) (hs : swapsWith value (some (.Subscript o i pos')) pos.line X.env = pure false) :
    PS X (.Assign [.Subscript o i pos'] value pos) (sDPut td ty tv) := by
  intro pins s σ H D I h
  refine wpAny_Assign_Subscript (thn (hv pins s σ H _ I h) fun r s1 ⟨v, H1, I1, rv, q1⟩ => thn (ho pins s1 σ H1 _ I1 q1) fun u s2 ⟨x, H2, I2, rx, q2⟩ => thn (hi pins s2 σ H2 _ I2 q2) fun iv s3 ⟨y, H3, I3, ry, a, H4, ex, g, q3⟩ => ?_) hs
  subst ex
  obtain rfl : u = Value.ref a := rx
  exact d_setItem hu I3 g ry rv fun s4 I4 => ⟨σ, H4, I4, q3⟩
theorem ps_daug {op : Operator} {rd : V → V → Hp → VK → Prop} (hu : X.A.units + 1 < cLine) (ho : PE X o td) (hi : PE X i ty) (hv : PE X value tv) (hop : InOp X op rd)
    (ha : ∀ ov iv new, augStore i ov iv new = (do holding [new, ov, iv] (setItem ov iv new); release [new, ov, iv] []; pure .next)) : PS X (.AugAssign (.Subscript o i tpos) op value pos) (sDAug td ty tv rd) := by
  intro pins s σ H D I h
  refine wpAny_AugAssign_SubscriptAny (thn (ho pins s σ H _ I h) fun u s1 ⟨x, H1, I1, rx, q1⟩ => thn (hi pins s1 σ H1 _ I1 q1) fun iv s2 ⟨y, H2, I2, ry, a, v, ex, g, q2⟩ => ?_) ha
  subst ex
  obtain rfl : u = Value.ref a := rx
  refine d_getItem hu I2 g ry fun w' s3 I3 rw' => thn (hv pins s3 σ H2 _ I3 q2) fun w2 s4 ⟨y2, H3, I4, ry2, q3⟩ => thn (hop pins s4 σ H3 v y2 w' w2 _ I4 rw' ry2 q3) fun w3 s5 ⟨z, H4, I5, rz, H5, g5, q4⟩ => ?_
  exact d_setItem hu I5 g5 ry rz fun s6 I6 => ⟨σ, H5, I6, q4⟩
theorem ps_ddel (ho : PE X o td) (hi : PE X i ty) : PS X (.Delete [.Subscript o i tpos] pos) (sDDel td ty) := by
  intro pins s σ H D I h
  refine wpAny_Delete (wpAny_deleteEach_cons (wpAny_delete_Subscript (thn (ho pins s σ H _ I h) fun u s1 ⟨x, H1, I1, rx, q1⟩ => thn (hi pins s1 σ H1 _ I1 q1) fun iv s2 ⟨y, H2, I2, ry, a, kvs, k, ex, e, ey, l, q2⟩ => ?_)))
  subst ex ey
  obtain rfl : u = Value.ref a := rx
  exact d_delItem I2 e ry l fun s3 I3 => wpAny_deleteEach_nil ⟨σ, _, I3, q2⟩
end


/-! ### displays -/
theorem dk_empty {P : Program} {w : World} {H : Hp} (h : Heap) (hb : sysModules < h.objs.size) : ObjOk P w H (h.push { cls := .type "dict", data := .dict #[] }) h.objs.size (.dK []) :=
  ⟨Nat.zero_le _, beq_eq_false_iff_ne.mpr (Ne.symm (Nat.ne_of_lt hb)), [], .nil, Heap.DictOf.new h⟩
theorem dt_empty {P : Program} {w : World} {H : Hp} (h : Heap) (hb : sysModules < h.objs.size) : ObjOk P w H (h.push { cls := .type "dict", data := .dict #[] }) h.objs.size (.dT []) :=
  ⟨Nat.zero_le _, beq_eq_false_iff_ne.mpr (Ne.symm (Nat.ne_of_lt hb)), [], .nil, _, #[], 0, Heap.get?_push_size _ rfl, ⟨rfl, rfl, rfl⟩, rfl, rfl, List.nodup_nil⟩
/-- {}, to be a dict of the kind that is wanted -/
def tDNewK : TE := fun _ H Q => ∀ p, H p = none → Q (.ref p) (upd H p (.dK []))
def tDNewT : TE := fun _ H Q => ∀ p, H p = none → Q (.ref p) (upd H p (.dT []))
section
variable {X : Cx} {pos : Pos}
theorem pe_dnewK : PE X (.Dict [] [] pos) tDNewK := fun pins s σ H Q I h =>
  wpAny_Dict_empty ⟨.ref s.heap.objs.size, _, I.laid (a := s.heap.objs.size) (o := .dK []) (t' := s.toks) (fun _ _ q => Heap.get?_push_of_some _ q) (Nat.le_refl _) (dk_empty s.heap I.big), rfl, h _ (I.hok.fresh (Nat.le_refl _))⟩
theorem pe_dnewT : PE X (.Dict [] [] pos) tDNewT := fun pins s σ H Q I h =>
  wpAny_Dict_empty ⟨.ref s.heap.objs.size, _, I.laid (a := s.heap.objs.size) (o := .dT []) (t' := s.toks) (fun _ _ q => Heap.get?_push_of_some _ q) (Nat.le_refl _) (dt_empty s.heap I.big), rfl, h _ (I.hok.fresh (Nat.le_refl _))⟩
end

/-- the pairs of a display, from the left -/
def tPairs : List (TE × TE) → St → Hp → (List (V × V) → Hp → Prop) → Prop
  | [], _, H, Q => Q [] H
  | (tk, tv) :: r, σ, H, Q => tk σ H fun x H1 => tv σ H1 fun y H2 => tPairs r σ H2 fun ps H3 => Q ((x, y) :: ps) H3
abbrev VV : List (V × V) → List (Value × Value) → Prop := Paired fun p q => RelV p.1 q.1 ∧ RelV p.2 q.2
def PPs (X : Cx) (pos : Pos) (keys : List (Option Expr)) (values : List Expr) (trs : List (TE × TE)) : Prop :=
  ∀ (pins : List (Addr × Obj)) (s : Shared) (σ : St) (H : Hp) (Q : List (V × V) → Hp → Prop), Inv X pins σ H s → tPairs trs σ H Q →
    wpAny (model X.prog X.w) X.A (evalPairs (pairTrees keys values X.env pos)) (fun vs s' => ∃ ps H', Inv X pins σ H' s' ∧ VV ps vs ∧ Q ps H') X.xe s
theorem pps_nil {X : Cx} {pos : Pos} : PPs X pos [] [] [] := fun pins s σ H Q I h => pairTrees_nil_walk ⟨[], H, I, .nil, h⟩
theorem pps_cons {X : Cx} {pos : Pos} {k v : Expr} {ks : List (Option Expr)} {vs : List Expr} {tk tv : TE} {trs : List (TE × TE)} (hk : PE X k tk) (hv : PE X v tv) (hr : PPs X pos ks vs trs) :
    PPs X pos (some k :: ks) (v :: vs) ((tk, tv) :: trs) := fun pins s σ H Q I h =>
  pairTrees_cons_walk (thn (hk pins s σ H _ I h) fun u s1 ⟨x, H1, I1, rx, q1⟩ => thn (hv pins s1 σ H1 _ I1 q1) fun w2 s2 ⟨y, H2, I2, ry, q2⟩ =>
    thn (hr pins s2 σ H2 _ I2 q2) fun ws s3 ⟨ps, H3, I3, rel, q3⟩ => ⟨(x, y) :: ps, H3, I3, .cons ⟨rx, ry⟩ rel, q3⟩)

def mergeK (kvs more : List (Key × V)) : List (Key × V) := more.foldl (fun acc kv => putK acc kv.1 kv.2) kvs
theorem KV.merge : ∀ {more : List (Key × V)} {rs : List (Key × Value)} {kvs : List (Key × V)} {vs : List (Key × Value)}, KV more rs → KV kvs vs → KV (mergeK kvs more) (merged vs rs) := by
  intro more rs kvs vs r
  unfold KV at r
  induction r generalizing kvs vs with
  | nil => intro q; exact q
  | @cons p q ps qs h t ih =>
    intro r0
    have e : KV (putK kvs p.1 p.2) (stored vs q.1 q.2) := by
      have := r0.put p.1 h.2
      rw [← h.1]; exact this
    exact ih e
theorem length_mergeK : ∀ (more kvs : List (Key × V)), (mergeK kvs more).length ≤ kvs.length + more.length
  | [], kvs => by show kvs.length ≤ kvs.length + 0; omega
  | p :: r, kvs => by
    have h1 := length_mergeK r (putK kvs p.1 p.2)
    have h2 := length_putK kvs p.1 p.2
    show (mergeK (putK kvs p.1 p.2) r).length ≤ _
    rw [List.length_cons]; omega
theorem carries_of {P : Program} {w : World} : ∀ {kvs : List (Key × V)} {ws : List (Value × Value)}, VV (kvs.map fun kv => (kV kv.1, kv.2)) ws → ∃ rs, Carries (mixKind P w) ws rs ∧ KV kvs rs
  | [], _, r => by rw [List.map_nil] at r; cases r; exact ⟨[], True.intro, .nil⟩
  | p :: kvs, _, r => by
    rw [List.map_cons] at r
    cases r with
    | @cons a b as bs h t =>
      obtain ⟨rs, c, q⟩ := carries_of (P := P) (w := w) t
      obtain ⟨b1, b2⟩ := b
      exact ⟨(p.1, b2) :: rs, ⟨kV_is h.1, rfl, c⟩, .cons ⟨rfl, h.2⟩ q⟩
/-- {k: v, ..} with keys ints and texts; the new dict stands empty while the pairs are made -/
def tDisp (trs : List (TE × TE)) : TE := fun σ H Q => ∀ p, H p = none → tPairs trs σ (upd H p (.dK [])) fun ps H2 => H2 p = some (.dK []) ∧ ∃ kvs : List (Key × V), ps = kvs.map (fun kv => (kV kv.1, kv.2)) ∧ kvs.length ≤ 15 ∧ Q (.ref p) (upd H2 p (.dK (mergeK [] kvs)))
theorem pe_disp {X : Cx} {pos : Pos} {keys : List (Option Expr)} {values : List Expr} {trs : List (TE × TE)} (h : PPs X pos keys values trs) (hall : keys.all (·.isSome) = true) (hl : keys.length = values.length) (h0 : keys ≠ [])
    (h15 : keys.length ≤ 15) : PE X (.Dict keys values pos) (tDisp trs) := by
  intro pins s σ H Q I q
  have hn := I.hok.fresh (Nat.le_refl s.heap.objs.size)
  have I1 := I.laid (a := s.heap.objs.size) (o := .dK []) (h' := s.heap.push { cls := .type "dict", data := .dict #[] }) (t' := s.toks) (fun _ _ q => Heap.get?_push_of_some _ q) (Nat.le_refl _) (dk_empty s.heap I.big)
  refine wpAny_Dict_walk (knd := mixKind X.prog X.w) hall hl h0 h15 (thn (h pins _ σ _ _ I1 (q _ hn)) fun ws s2 ⟨ps, H2, I2, rel, e, kvs, ep, lk, q2⟩ => ?_)
  subst ep
  obtain ⟨rs, c, rk⟩ := carries_of (P := X.prog) (w := X.w) rel
  obtain ⟨z, hd, vs0, r0, dd⟩ := dk_of I2.hok e
  cases r0
  refine ⟨rs, c, dd, fun h' dd' hs => ⟨.ref s.heap.objs.size, _, ?_, rfl, q2⟩⟩
  have hz : (mergeK [] kvs).length ≤ sizeLine := by
    have h1 := length_mergeK kvs []
    rw [List.length_nil] at h1
    rw [sizeLine_eq]; omega
  have he : ∃ q, h'.get? s.heap.objs.size = some q := let ⟨q, _, _, hq, _⟩ := dd'; ⟨q, hq⟩
  exact d_write I2 (by rw [e]; exact True.intro) hs he (dk_new hz hd (rk.merge .nil) dd')


/-! ### methods -/
/-- a method call o.m(e) of a built-in, with one argument: what must be seen of the text -/
structure M1 (X : Cx) (o : Expr) (m : Str) (apos : Pos) (e : Expr) (cpos : Pos) : Prop where
  base : attributeBase o m X.env (eval o X.env) = eval o X.env
  few : ((backTo cpos (starEach [e] X.env)).all (fun x => !x.1) && (backToKw cpos (keywordEach [] X.env)).all (fun x => x.1.isSome)
    && decide (([e] : List Expr).length + ([] : List Keyword).length + (if ([] : List Keyword).isEmpty then 0 else 1) < 30)) = true
  line : (apos.endLine == cpos.line) = true
  trees : backTo cpos (starEach [e] X.env) = [(false, eval e X.env)]
structure M2 (X : Cx) (o : Expr) (m : Str) (apos : Pos) (e f : Expr) (cpos : Pos) : Prop where
  base : attributeBase o m X.env (eval o X.env) = eval o X.env
  few : ((backTo cpos (starEach [e, f] X.env)).all (fun x => !x.1) && (backToKw cpos (keywordEach [] X.env)).all (fun x => x.1.isSome)
    && decide (([e, f] : List Expr).length + ([] : List Keyword).length + (if ([] : List Keyword).isEmpty then 0 else 1) < 30)) = true
  line : (apos.endLine == cpos.line) = true
  trees : backTo cpos (starEach [e, f] X.env) = [(false, eval e X.env), (false, eval f X.env)]

/-- a is a dict, whatever its keys -/
def IsD (H : Hp) (a : Addr) : Prop := (∃ kvs, Rd H a (.dK kvs)) ∨ ∃ kvs, Rd H a (.dT kvs)
theorem isD_at {X : Cx} {pins : List (Addr × Obj)} {σ : St} {H : Hp} {s : Shared} {a : Addr} (I : Inv X pins σ H s) (d : IsD H a) :
    s.TypeIs (.ref a) "dict" ∧ (∀ b, Value.ref a = .ref b → ∃ ob, s.heap.get? b = some ob ∧ ob.dict = none) ∧ (a == sysModules) = false := by
  rcases d with ⟨kvs, e⟩ | ⟨kvs, e⟩
  · obtain ⟨_, hd, vs, _, dd⟩ := dk_rd I.hok e
    refine ⟨dd.typeIs, fun b q => ?_, hd⟩
    cases q
    obtain ⟨ob, _, _, h1, h2, _⟩ := dd
    exact ⟨ob, h1, h2.2.1⟩
  · obtain ⟨_, hd, xs, _, dd⟩ := dt_rd I.hok e
    refine ⟨dd.typeIs, fun b q => ?_, hd⟩
    cases q
    obtain ⟨ob, _, _, h1, h2, _⟩ := dd
    exact ⟨ob, h1, h2.2.1⟩

section
variable {X : Cx} {pins : List (Addr × Obj)} {σ : St} {H : Hp} {s : Shared} {a : Addr} {y d : V} {u r : Value} {o : Option V} {A : Around} {E : Value → Shared → Prop}
/-- d.get(y) -/
theorem d_get1 {Q : Value → Shared → Prop} (hu : A.units + 1 < cLine) (I : Inv X pins σ H s) (g : DGet H a y o) (ry : RelV y u) (h : ∀ w' s', Inv X pins σ H s' → RelV (o.getD .non) w' → Q w' s') :
    wpAny (model X.prog X.w) A (call (.builtin "dict.get") [.ref a, u]) Q E s := by
  rcases g with ⟨kvs, k, e, ey, l⟩ | ⟨kvs, k, b, e, ey, eb, l⟩
  · subst ey
    obtain ⟨z, hd, vs, rel, dd⟩ := dk_rd I.hok e
    refine call_meetsIn PySem.F.slot_dict_get dd.typeIs PySem.F.entry_dict_get (PySem.F.args_dict_get_2 _ _) (meets_dict_get (mixKind X.prog X.w) a (kV_is ry) hd) ⟨_, dd.mapOf, h _ _ (I.tok _) ?_⟩
    rw [l]
    exact (rel.val k).getD rfl
  · subst ey
    cases (show u = Value.ref b from ry)
    obtain ⟨z, hd, xs, rel, dd⟩ := dt_rd I.hok e
    refine call_meetsIn PySem.F.slot_dict_get dd.typeIs PySem.F.entry_dict_get (PySem.F.args_dict_get_2 _ _) (meetsH_dict_get (tupleKind (mixKind X.prog X.w)) a b hd) ⟨tupleKind_room_in1 hu, k, xs, key_of I.hok eb, dd, h _ _ (I.tok _) ?_⟩
    rw [l]
    exact (rel.val k).getD rfl
/-- d.get(y, x) -/
theorem d_get2 {Q : Value → Shared → Prop} (hu : A.units + 1 < cLine) (I : Inv X pins σ H s) (g : DGet H a y o) (ry : RelV y u) (rd : RelV d r) (h : ∀ w' s', Inv X pins σ H s' → RelV (o.getD d) w' → Q w' s') :
    wpAny (model X.prog X.w) A (call (.builtin "dict.get") [.ref a, u, r]) Q E s := by
  rcases g with ⟨kvs, k, e, ey, l⟩ | ⟨kvs, k, b, e, ey, eb, l⟩
  · subst ey
    obtain ⟨z, hd, vs, rel, dd⟩ := dk_rd I.hok e
    refine call_meetsIn PySem.F.slot_dict_get dd.typeIs PySem.F.entry_dict_get (PySem.F.args_dict_get_3 _ _ _) (meets_dict_get_default (mixKind X.prog X.w) a (kV_is ry) hd r) ⟨_, dd.mapOf, h _ _ (I.tok _) ?_⟩
    rw [l]
    exact (rel.val k).getD rd
  · subst ey
    cases (show u = Value.ref b from ry)
    obtain ⟨z, hd, xs, rel, dd⟩ := dt_rd I.hok e
    refine call_meetsIn PySem.F.slot_dict_get dd.typeIs PySem.F.entry_dict_get (PySem.F.args_dict_get_3 _ _ _) (meetsH_dict_get_default (tupleKind (mixKind X.prog X.w)) a b hd r) ⟨tupleKind_room_in1 hu, k, xs, key_of I.hok eb, dd, h _ _ (I.tok _) ?_⟩
    rw [l]
    exact (rel.val k).getD rd
end

def tDGet1 (td ty : TE) : TE := fun σ H Q => td σ H fun x H1 => ∃ a, x = .ref a ∧ IsD H1 a ∧ ty σ H1 fun y H2 => ∃ o, DGet H2 a y o ∧ Q (o.getD .non) H2
def tDGet2 (td ty tx : TE) : TE := fun σ H Q => td σ H fun x H1 => ∃ a, x = .ref a ∧ IsD H1 a ∧ ty σ H1 fun y H2 => tx σ H2 fun z H3 => ∃ o, DGet H3 a y o ∧ Q (o.getD z) H3
/-- d.pop(k): there; d.pop(k, x): there or not -/
def tDPop1 (td ty : TE) : TE := fun σ H Q => td σ H fun x H1 => ∃ a, x = .ref a ∧ IsD H1 a ∧ ty σ H1 fun y H2 => ∃ kvs k v, H2 a = some (.dK kvs) ∧ y = kV k ∧ valV kvs k = some v ∧ Q v (upd H2 a (.dK (dropK kvs k)))
def tDPop2 (td ty tx : TE) : TE := fun σ H Q => td σ H fun x H1 => ∃ a, x = .ref a ∧ IsD H1 a ∧ ty σ H1 fun y H2 => tx σ H2 fun z H3 => ∃ kvs k, H3 a = some (.dK kvs) ∧ y = kV k ∧
  (∀ v, valV kvs k = some v → Q v (upd H3 a (.dK (dropK kvs k)))) ∧ (valV kvs k = none → Q z H3)
section
variable {X : Cx} {o e f : Expr} {apos cpos : Pos} {td ty tx : TE}
theorem pe_dget1 (hu : X.A.units + 1 < cLine) (ho : PE X o td) (he : PE X e ty) (m : M1 X o "get" apos e cpos) : PE X (.Call (.Attribute o "get" apos) [e] [] cpos) (tDGet1 td ty) := by
  intro pins s σ H Q I h
  refine wpAny_Call_method m.base m.few m.line PySem.F.plainAttrs_dict PySem.F.slot_dict_get PySem.F.type_dict_get (thn (ho pins s σ H _ I h) fun u s1 ⟨x, H1, I1, rx, a, ex, d, q1⟩ => ?_)
  subst ex
  obtain rfl : u = Value.ref a := rx
  obtain ⟨t1, t2, _⟩ := isD_at I1 d
  refine ⟨t1, t2, ?_⟩
  rw [m.trees]
  refine Calls.callWith_builtin rfl (Calls.evalArgs_plain (Calls.spliced_cons (thn (he pins s1 σ H1 _ I1 q1) fun iv s2 ⟨y, H2, I2, ry, ov, g, q2⟩ => Calls.spliced_nil ?_)))
  exact d_get1 hu I2 g ry fun w' s3 I3 rw' => ⟨_, H2, I3, rw', q2⟩
theorem pe_dget2 (hu : X.A.units + 1 < cLine) (ho : PE X o td) (he : PE X e ty) (hf : PE X f tx) (m : M2 X o "get" apos e f cpos) : PE X (.Call (.Attribute o "get" apos) [e, f] [] cpos) (tDGet2 td ty tx) := by
  intro pins s σ H Q I h
  refine wpAny_Call_method m.base m.few m.line PySem.F.plainAttrs_dict PySem.F.slot_dict_get PySem.F.type_dict_get (thn (ho pins s σ H _ I h) fun u s1 ⟨x, H1, I1, rx, a, ex, d, q1⟩ => ?_)
  subst ex
  obtain rfl : u = Value.ref a := rx
  obtain ⟨t1, t2, _⟩ := isD_at I1 d
  refine ⟨t1, t2, ?_⟩
  rw [m.trees]
  refine Calls.callWith_builtin rfl (Calls.evalArgs_plain (Calls.spliced_cons (thn (he pins s1 σ H1 _ I1 q1) fun iv s2 ⟨y, H2, I2, ry, q2⟩ =>
    Calls.spliced_cons (thn (hf pins s2 σ H2 _ I2 q2) fun fv s3 ⟨z, H3, I3, rz, ov, g, q3⟩ => Calls.spliced_nil ?_))))
  exact d_get2 hu I3 g ry rz fun w' s4 I4 rw' => ⟨_, H3, I4, rw', q3⟩
theorem pe_dpop1 (ho : PE X o td) (he : PE X e ty) (m : M1 X o "pop" apos e cpos) : PE X (.Call (.Attribute o "pop" apos) [e] [] cpos) (tDPop1 td ty) := by
  intro pins s σ H Q I h
  refine wpAny_Call_method m.base m.few m.line PySem.F.plainAttrs_dict PySem.F.slot_dict_pop PySem.F.type_dict_pop (thn (ho pins s σ H _ I h) fun u s1 ⟨x, H1, I1, rx, a, ex, d, q1⟩ => ?_)
  subst ex
  obtain rfl : u = Value.ref a := rx
  obtain ⟨t1, t2, _⟩ := isD_at I1 d
  refine ⟨t1, t2, ?_⟩
  rw [m.trees]
  refine Calls.callWith_builtin rfl (Calls.evalArgs_plain (Calls.spliced_cons (thn (he pins s1 σ H1 _ I1 q1) fun iv s2 ⟨y, H2, I2, ry, kvs, k, v, ea, ey, l, q2⟩ => Calls.spliced_nil ?_)))
  subst ey
  exact d_pop I2 ea ry l (.inl rfl) fun w' s3 I3 rw' => ⟨v, _, I3, rw', q2⟩
theorem pe_dpop2 (ho : PE X o td) (he : PE X e ty) (hf : PE X f tx) (m : M2 X o "pop" apos e f cpos) : PE X (.Call (.Attribute o "pop" apos) [e, f] [] cpos) (tDPop2 td ty tx) := by
  intro pins s σ H Q I h
  refine wpAny_Call_method m.base m.few m.line PySem.F.plainAttrs_dict PySem.F.slot_dict_pop PySem.F.type_dict_pop (thn (ho pins s σ H _ I h) fun u s1 ⟨x, H1, I1, rx, a, ex, d, q1⟩ => ?_)
  subst ex
  obtain rfl : u = Value.ref a := rx
  obtain ⟨t1, t2, _⟩ := isD_at I1 d
  refine ⟨t1, t2, ?_⟩
  rw [m.trees]
  refine Calls.callWith_builtin rfl (Calls.evalArgs_plain (Calls.spliced_cons (thn (he pins s1 σ H1 _ I1 q1) fun iv s2 ⟨y, H2, I2, ry, q2⟩ =>
    Calls.spliced_cons (thn (hf pins s2 σ H2 _ I2 q2) fun fv s3 ⟨z, H3, I3, rz, kvs, k, ea, ey, q3, q4⟩ => Calls.spliced_nil ?_))))
  subst ey
  cases l : valV kvs k with
  | some v => exact d_pop I3 ea ry l (.inr ⟨fv, rfl⟩) fun w' s4 I4 rw' => ⟨v, _, I4, rw', q3 v l⟩
  | none => exact d_popD I3 ea ry l fun s4 I4 => ⟨z, H3, I4, rz, q4 l⟩
end

/-! ### dict(d): a copy -/
section
variable {X : Cx} {pins : List (Addr × Obj)} {σ : St} {H : Hp} {s : Shared} {a : Addr} {kvs : List (Key × V)} {A : Around} {E : Value → Shared → Prop}
theorem d_copyOf {Q : Value → Shared → Prop} (I : Inv X pins σ H s) (e : Rd H a (.dK kvs)) (h : ∀ p s', H p = none → Inv X pins σ (upd H p (.dK kvs)) s' → Q (.ref p) s') : wpAny (model X.prog X.w) A (call (.type "dict") [.ref a]) Q E s := by
  obtain ⟨z, hd, vs, rel, dd⟩ := dk_rd I.hok e
  refine kt_call_dict hd dd (by rw [← rel.length]; exact z) fun h' dd' hs => ?_
  refine h _ _ (I.hok.fresh (Nat.le_refl _)) (I.laid (a := s.heap.objs.size) (o := .dK kvs) (t' := s.toks) (fun b q hq => ?_) (Nat.le_refl _) (dk_new z (beq_eq_false_iff_ne.mpr (Ne.symm (Nat.ne_of_lt I.big))) rel dd'))
  exact (hs.2 b (Nat.ne_of_lt (Heap.lt_size hq))).trans (Heap.get?_push_of_some _ hq)
end


section
variable {X : Cx} {pins : List (Addr × Obj)} {σ : St} {H : Hp} {s : Shared} {a : Addr} {y : V} {u : Value} {A : Around} {E : Value → Shared → Prop}
/-- d[y], not there: a KeyError -/
theorem d_missing {Q : Value → Shared → Prop} (hu : A.units + 1 < cLine) (hh : A.handled = none) (I : Inv X pins σ H s) (g : DGet H a y none) (ry : RelV y u)
    (h : ∀ h' e t', Heap.NewExc s.heap h' e "KeyError" → E (.ref e) { s with heap := h', toks := t' }) : wpAny (model X.prog X.w) A (getItem (.ref a) u) Q E s := by
  rcases g with ⟨kvs, k, e, ey, l⟩ | ⟨kvs, k, b, e, ey, eb, l⟩
  · subst ey
    obtain ⟨z, hd, vs, rel, dd⟩ := dk_rd I.hok e
    have hn : valueAt vs k = none := RelO.none_of (by rw [l]; exact rel.val k)
    exact wpAny_getItem_missing_of (kV_is ry) hd hh dd.mapOf hn fun h' ex ne => h h' ex _ ne
  · subst ey
    cases (show u = Value.ref b from ry)
    obtain ⟨z, hd, xs, rel, dd⟩ := dt_rd I.hok e
    have hn : (atKey xs k).map (·.2) = none := RelO.none_of (by rw [l]; exact rel.val k)
    exact wpAny_getItem_missing_heap (tupleKind_room_in1 hu) (key_of I.hok eb) hd hh dd (Option.map_eq_none_iff.mp hn) fun h' ex ne => h h' ex _ ne
end
end L2

/-! A COMPREHENSION over the layer: [e for t in i], [e for t in i if c], as a value and as a name's new value. -/
namespace L2
open PySem PySem.Spec PyProof.Rows

/-! ### the closure of the block -/
theorem forIn_yield_gen {α β : Type} {f : α → β → Sem (ForInStep β)} (g : β → α → β) : ∀ (l : List α) (b : β), (∀ x ∈ l, ∀ b, f x b = pure (.yield (g b x))) → forIn l b f = pure (l.foldl g b) := by
  intro l
  induction l with
  | nil => intro b _; rfl
  | cons x l ih =>
    intro b h
    rw [List.forIn_cons, h x List.mem_cons_self, pure_bind]
    exact ih _ fun y hy => h y (List.mem_cons_of_mem _ hy)
def closStep (env : Env) (cs : List (Str × Addr)) (p : Str × NameKind) : List (Str × Addr) := if p.2 == .free then (p.1, (env.cells.lookup p.1).getD 0) :: cs else cs
def clos (env : Env) (names : List (Str × NameKind)) : List (Str × Addr) := names.foldl (closStep env) []
theorem closureFor_clos {scope : Scope} {env : Env} (h : ∀ p ∈ scope.names, p.2 = .free → ∃ c, env.cells.lookup p.1 = some c) : closureFor scope env = pure (clos env scope.names) := by
  simp only [closureFor]
  rw [forIn_yield_gen (closStep env) scope.names [] (fun x hx b => by
    obtain ⟨n, k⟩ := x
    cases e : (k == NameKind.free) with
    | false => simp only [closStep, e, Bool.false_eq_true, if_false]
    | true =>
      have ek : k = .free := by simpa using e
      obtain ⟨c, hc⟩ := h _ hx ek
      simp only [] at hc
      simp only [closStep, e, if_true, cellOf, hc, Option.getD_some, pure_bind])]
  rfl
theorem clos_pairs {env : Env} : ∀ (names : List (Str × NameKind)) (cs : List (Str × Addr)), (∀ p ∈ names, p.2 = .free → ∃ c, env.cells.lookup p.1 = some c) → (∀ q ∈ cs, env.cells.lookup q.1 = some q.2) →
    ∀ q ∈ names.foldl (closStep env) cs, env.cells.lookup q.1 = some q.2
  | [], _, _, hc => hc
  | (n, k) :: r, cs, h, hc => by
    refine clos_pairs r _ (fun p hp => h p (List.mem_cons_of_mem _ hp)) fun q hq => ?_
    unfold closStep at hq
    split at hq
    · rename_i e
      rcases List.mem_cons.mp hq with rfl | hq
      · obtain ⟨c, e'⟩ := h (n, k) List.mem_cons_self (by simpa using e)
        simp only [] at e'
        simp only [e', Option.getD_some]
      · exact hc q hq
    · exact hc q hq
theorem clos_keep {env : Env} : ∀ (names : List (Str × NameKind)) (cs : List (Str × Addr)) (q : Str × Addr), q ∈ cs → q ∈ names.foldl (closStep env) cs
  | [], _, _, h => h
  | (n, k) :: r, cs, q, h => by
    refine clos_keep r _ q ?_
    unfold closStep
    split
    · exact List.mem_cons_of_mem _ h
    · exact h
theorem clos_mem {env : Env} : ∀ (names : List (Str × NameKind)) (cs : List (Str × Addr)) (x : Str), (x, NameKind.free) ∈ names → ∃ a, (x, a) ∈ names.foldl (closStep env) cs
  | [], _, _, h => by simp at h
  | (n, k) :: r, cs, x, h => by
    rcases List.mem_cons.mp h with e | h
    · cases e
      exact ⟨_, clos_keep r _ _ (by unfold closStep; rw [if_pos (by simp)]; exact List.mem_cons_self)⟩
    · exact clos_mem r _ x h
theorem lookup_of_mem {α : Type} {x : Str} {a : α} : ∀ {l : List (Str × α)}, (x, a) ∈ l → ∃ b, l.lookup x = some b
  | [], h => by simp at h
  | (n, b) :: r, h => by
    by_cases e : x = n
    · subst e; exact ⟨b, by simp [List.lookup_cons]⟩
    · rcases List.mem_cons.mp h with z | z
      · cases z; exact absurd rfl e
      · obtain ⟨c, hc⟩ := lookup_of_mem z
        have e' : (x == n) = false := by simpa using e
        exact ⟨c, by simp only [List.lookup_cons, e']; exact hc⟩
theorem clos_lookup {env : Env} {names : List (Str × NameKind)} (h : ∀ p ∈ names, p.2 = .free → ∃ c, env.cells.lookup p.1 = some c) {x : Str} {c : Addr} (e : (clos env names).lookup x = some c) : env.cells.lookup x = some c :=
  clos_pairs names [] h (fun _ hq => absurd hq (by simp)) (x, c) (PySem.mem_of_lookup e)
theorem clos_free {env : Env} {names : List (Str × NameKind)} (h : ∀ p ∈ names, p.2 = .free → ∃ c, env.cells.lookup p.1 = some c) {x : Str} (hx : (x, NameKind.free) ∈ names) : ∃ c, (clos env names).lookup x = some c ∧ env.cells.lookup x = some c := by
  obtain ⟨a, ha⟩ := clos_mem (env := env) names [] x hx
  obtain ⟨c, hc⟩ := lookup_of_mem ha
  exact ⟨c, hc, clos_lookup h hc⟩
/-- the names' kinds in the block -/
theorem relabel_lookup {env : Env} : ∀ {names : List (Str × NameKind)} {x : Str},
    (names.map fun (n, k) => if (k == NameKind.free && env.scope.kind == .function && env.kindOf n == some .cell) then (n, NameKind.cell) else (n, k)).lookup x = names.lookup x ∨
      (names.lookup x = some .free ∧ (names.map fun (n, k) => if (k == NameKind.free && env.scope.kind == .function && env.kindOf n == some .cell) then (n, NameKind.cell) else (n, k)).lookup x = some .cell)
  | [], _ => .inl rfl
  | (n, k) :: r, x => by
    have ih := @relabel_lookup env r x
    show List.lookup x ((if (k == NameKind.free && env.scope.kind == .function && env.kindOf n == some .cell) = true then (n, NameKind.cell) else (n, k)) :: _) = _ ∨ (_ ∧ List.lookup x ((if (k == NameKind.free && env.scope.kind == .function && env.kindOf n == some .cell) = true then (n, NameKind.cell) else (n, k)) :: _) = _)
    cases hx : x == n with
    | true =>
      by_cases hc : (k == NameKind.free && env.scope.kind == .function && env.kindOf n == some .cell) = true
      · have hk : k = .free := by simp only [Bool.and_eq_true] at hc; simpa using hc.1.1
        rw [if_pos hc]
        simp only [List.lookup_cons, hx]
        exact .inr ⟨by rw [hk], by first | rfl | trivial⟩
      · rw [if_neg hc]
        simp only [List.lookup_cons, hx]
        first | exact .inl rfl | exact .inl trivial
    | false =>
      by_cases hc : (k == NameKind.free && env.scope.kind == .function && env.kindOf n == some .cell) = true
      · rw [if_pos hc]; simp only [List.lookup_cons, hx]; exact ih
      · rw [if_neg hc]; simp only [List.lookup_cons, hx]; exact ih

/-! ### the block's context -/
/-- what a comprehension's scope must be: own: its own names, cap: the slots of the body's names that it reads -/
structure LcSc (N : List Str) (sc : Scope) (own : List Str) (cap : List Nat) (scope : Scope) : Prop where
  kind : scope.kind = .function
  nocell : ∀ y ∈ scope.names, y.2 ≠ .cell
  loc : ∀ y ∈ scope.names, y.2 = .local → scope.names.lookup y.1 = some .local
  fr : ∀ y ∈ scope.names, y.2 = .free → sc.names.lookup y.1 = some .cell ∨ sc.names.lookup y.1 = some .free
  cap : ∀ i ∈ cap, i < N.length ∧ scope.names.lookup (N.getD i Str.empty) = some .free
def lcN (N own : List Str) (cap : List Nat) : List Str := own ++ cap.map fun i => N.getD i Str.empty
def lcSt (own : List Str) (cap : List Nat) (σ : St) : St := List.replicate own.length none ++ cap.map fun i => σ.getD i none
abbrev cxLc (X : Cx) (N' : List Str) (scope : Scope) (cl : List (Str × Addr)) (C : Addr) (s : Shared) (H : Hp) (fp : List Addr) : Cx where
  prog := X.prog
  w := X.w
  K := X.K
  mg := X.mg
  base := X.base
  A := X.A
  N := N'
  s₀ := s
  H₀ := H
  env := compEnvC scope cl C X.env
  outer := X.stack
  stack := X.stack
  ex := fp
  fn := fun _ => false
  calm := X.calm
  pn := []
  xe := fun _ _ => False

section
variable {X : Cx} {pins : List (Addr × Obj)} {σ : St} {H : Hp} {s : Shared} {N own : List Str} {cap : List Nat} {sc scope : Scope} {fp : List Addr}
theorem LcSc.cells (L : LcSc N sc own cap scope) (hsc : X.env.scope = sc) (ok : X.Ok) : ∀ p ∈ scope.names, p.2 = .free → ∃ c, X.env.cells.lookup p.1 = some c := fun p hp e => by
  refine ok.has p.1 ?_
  show X.env.scope.names.lookup p.1 = _ ∨ X.env.scope.names.lookup p.1 = _
  rw [hsc]
  exact L.fr p hp e
theorem lc_start (L : LcSc N sc own cap scope) (hN : X.N = N) (hsc : X.env.scope = sc) (I : Inv X pins σ H s) (hf : ∀ b ∈ fp, FpOk X pins H b) (hlt : ∀ b ∈ fp, b < s.heap.objs.size)
    {h4 : Heap} {tk : Nat} (hns : h4.Ns s.heap.objs.size fun _ => none) (hk : ∀ b o, s.heap.get? b = some o → h4.get? b = some o) :
    Inv (cxLc X (lcN N own cap) scope (clos X.env scope.names) s.heap.objs.size s H fp) [] (lcSt own cap σ) H { s with heap := h4, toks := tk } := by
  have hcs := L.cells hsc I.ok
  have kinds : ∀ x, ((relabel scope X.env).names.lookup x = some .cell ∨ (relabel scope X.env).names.lookup x = some .free) → scope.names.lookup x = some .free := fun x hx => by
    rcases @relabel_lookup X.env scope.names x with e | ⟨e, _⟩
    · have hx' : scope.names.lookup x = some .cell ∨ scope.names.lookup x = some .free := by rw [← e]; exact hx
      rcases hx' with z | z
      · exact absurd rfl (L.nocell _ (PySem.mem_of_lookup z))
      · exact z
    · exact e
  refine ⟨⟨I.ok.mod, L.kind, I.ok.glob, I.ok.blt, Nat.le_refl _, fun x y c h1 h2 => I.ok.inj x y c (clos_lookup hcs h1) (clos_lookup hcs h2), fun x hx => ?_, fun x c h _ => absurd h (by simp), I.ok.hd, I.ok.frames, .inl rfl, fun b hb => ⟨Nat.ne_of_lt (hlt b hb), fun x c e => (hf b hb).2.2.2.2.1 x c (clos_lookup hcs e)⟩,
    I.bs, Nat.le_trans I.ok.bsz I.sz, fun b o e hb => ?_, fun b hb z => ?_, I.stack, I.stkFree⟩,
    rfl, I.bare, Un.kept hk, ⟨_, hns, fun i x v h1 h2 h3 => ?_⟩, fun x c e => ?_, I.hok.fresh (Nat.le_refl _), fun x c e => I.freeC x c (clos_lookup hcs e), fun p hp => absurd (show p ∈ ([] : List (Addr × Obj)) from hp) (by simp), I.hok.kept hk, ?_⟩
  · obtain ⟨c, e, _⟩ := clos_free hcs (PySem.mem_of_lookup (kinds x hx))
    exact ⟨c, e⟩
  · rcases (hf b hb).2.2.2.1 with z | z
    · exact I.ok.noex b o e z
    · exact absurd (Nat.lt_of_lt_of_le (Heap.lt_size (I.ok.bs b o e).1) z) (Nat.lt_irrefl _)
  · rcases List.mem_cons.mp (I.stkSub b z) with e | e
    · exact (hf b hb).2.1 e
    · exact (hf b hb).2.2.1 e
  · -- a captured name's value stands in its cell
    have hi : own.length ≤ i := by
      by_cases hi : own.length ≤ i
      · exact hi
      · have h2' : (List.replicate own.length none ++ cap.map fun i => σ.getD i none)[i]? = some (some v) := h2
        rw [List.getElem?_append_left (by simp only [List.length_replicate]; omega), List.getElem?_replicate] at h2'
        split at h2' <;> cases h2'
    have h2' : (List.replicate own.length none ++ cap.map fun i => σ.getD i none)[i]? = some (some v) := h2
    rw [List.getElem?_append_right (by simp only [List.length_replicate]; omega), List.length_replicate, List.getElem?_map] at h2'
    have h1' : (own ++ cap.map fun i => N.getD i Str.empty)[i]? = some x := h1
    rw [List.getElem?_append_right hi, List.getElem?_map] at h1'
    cases ec : cap[i - own.length]? with
    | none => rw [ec] at h1'; cases h1'
    | some k =>
      rw [ec] at h1' h2'
      have ex : N.getD k Str.empty = x := Option.some.inj h1'
      have ev : σ.getD k none = some v := Option.some.inj h2'
      obtain ⟨hkl, hfr⟩ := L.cap k (List.mem_of_getElem? ec)
      rw [ex] at hfr
      have hNk : X.N[k]? = some x := by
        rw [hN, List.getElem?_eq_getElem hkl]
        rw [List.getD_eq_getElem?_getD, List.getElem?_eq_getElem hkl] at ex
        exact congrArg some ex
      have hσk : σ[k]? = some (some v) := by
        rw [List.getD_eq_getElem?_getD] at ev
        cases e : σ[k]? with
        | none => rw [e] at ev; cases ev
        | some z => rw [e] at ev; exact congrArg some ev
      have hmem := PySem.mem_of_lookup hfr
      have hkd : X.env.scope.names.lookup x = some .cell ∨ X.env.scope.names.lookup x = some .free := by rw [hsc]; exact L.fr _ hmem rfl
      obtain ⟨m, _, hl⟩ := I.loc
      obtain ⟨u, ru, lk⟩ := hl k x v hNk hσk (.inr hkd)
      obtain ⟨c, e1, e2⟩ := clos_free hcs hmem
      rcases lk with ⟨z, _⟩ | ⟨_, c', e3, z⟩
      · have z' : X.env.scope.names.lookup x = some .local := z
        rcases hkd with q | q <;> (rw [q] at z'; cases z')
      · rw [e2] at e3; cases e3
        refine ⟨u, ru, .inr ⟨?_, c, e1, ?_⟩⟩
        · show (relabel scope X.env).names.lookup x = _ ∨ (relabel scope X.env).names.lookup x = _
          rcases @relabel_lookup X.env scope.names x with q | ⟨_, q⟩
          · exact .inr (q.trans hfr)
          · exact .inl q
        · obtain ⟨o, ho, hd⟩ := z
          exact ⟨o, hk _ _ ho, hd⟩
  · obtain ⟨v, o, ho, hd⟩ := I.cell x c (clos_lookup hcs e)
    exact ⟨v, o, hk _ _ ho, hd⟩
  · show (List.replicate own.length none ++ cap.map fun i => σ.getD i none).length = (own ++ cap.map fun i => N.getD i Str.empty).length
    simp only [List.length_append, List.length_replicate, List.length_map]
/-- back in the body -/
theorem lc_back {N' : List Str} {cl : List (Str × Addr)} {C : Addr} {σ' : St} {H' : Hp} {s' : Shared} {pins' : List (Addr × Obj)} (I : Inv X pins σ H s) (hf : ∀ b ∈ fp, FpOk X pins H b) (J : Inv (cxLc X N' scope cl C s H fp) pins' σ' H' s') : Inv X pins σ H' s' :=
  I.call' (ch := fp) J.os J.base J.hok J.bare fun b hb => ⟨(hf b hb).2.2.2.1, (hf b hb).2.1, (hf b hb).2.2.2.2.1, (hf b hb).2.2.2.2.2⟩
end

/-! ### the block's tests -/
def PIf (X : Cx) (ifs : List Expr) (tc : TT) : Prop :=
  ∀ (pins : List (Addr × Obj)) (s : Shared) (σ : St) (H : Hp) (Q : Bool → Hp → Prop), Inv X pins σ H s → tc σ H Q →
    wpAny (model X.prog X.w) X.A (forIn ifs true fun c r => if r = true then do let ok ← isTrue c X.env (eval c X.env); pure (ForInStep.yield ok) else pure (ForInStep.yield r)) (TP X pins σ Q) X.xe s
def tYes : TT := fun _ H Q => Q true H
theorem pif_nil {X : Cx} : PIf X [] tYes := fun _ _ _ H _ I h => wpAny_tests_nil ⟨H, I, h⟩
theorem pif_one {X : Cx} {c : Expr} {tc : TT} (h : PT X c tc) : PIf X [c] tc := fun pins s σ H Q I hq => wpAny_tests_one (h pins s σ H Q I hq)

/-! ### the loop -/
section
variable {prog : Program} {w : World} {A : Around} {R : Result → Shared → Prop} {s : Shared}
theorem compLoop_gen {elt target iter : Expr} {ifs : List Expr} {scope : Scope} {pos : Pos} {it acc : Value} {env : Env} (I : Nat → Shared → Prop)
    (turn : ∀ n s, I n s → wpAny (model prog w) A (pyNext it) (fun r s₁ => match r with
      | none => R (.ok .next) s₁
      | some v => wpAny (model prog w) A (letOwnedTupleGo target it v) (fun _ s₁' => wpAny (model prog w) A (assign target env v) (fun _ s₂ =>
          wpAny (model prog w) A (forIn ifs true fun c r => if r = true then do let ok ← isTrue c env (eval c env); pure (ForInStep.yield ok) else pure (ForInStep.yield r)) (fun ok s₃ =>
            if ok = true then wpAny (model prog w) A (eval elt env) (fun x s₄ =>
              wpAny (model prog w) A (call (.builtin "list.append") [acc, x]) (fun _ s₅ => ∃ m, m < n ∧ I m s₅) (fun _ _ => False) s₄) (fun _ _ => False) s₃
            else ∃ m, m < n ∧ I m s₃) (fun _ _ => False) s₂) (fun _ _ => False) s₁') (fun _ _ => False) s₁) (fun _ _ => False) s)
    (n : Nat) (h : I n s) :
    codeAny (model prog w) A (.compLoop (.ListComp elt [⟨target, iter, ifs, 0⟩] scope pos) 0 it acc env) R s := by
  refine codeAny_loop rfl I (fun n s hI => ?_) n h
  show wpAny _ A ((compTurn (.ListComp elt [⟨target, iter, ifs, 0⟩] scope pos) 0 it acc env).onRaise (fun x => do noteFrame x env; theTreesLotGoes x)) _ _ s
  refine wpAny_noted ?_
  rw [compTurn_list]
  refine wpAny_bind (wpAny_standAt (wpAny_bind (wpAny_mono (turn n s hI) (fun r s₁ h₁ => ?_) fun _ _ z => False.elim z)))
  cases r with
  | none => exact wpAny_pure h₁
  | some v =>
    refine wpAny_bind (wpAny_mono h₁ (fun _ s₁' h₁' => ?_) fun _ _ z => False.elim z)
    refine wpAny_bind (wpAny_mono h₁' (fun _ s₂ h₂ => wpAny_bind (wpAny_mono h₂ (fun ok s₃ h₃ => ?_) fun _ _ z => False.elim z)) fun _ _ z => False.elim z)
    cases ok with
    | false => exact wpAny_pure ⟨rfl, h₃⟩
    | true =>
      exact wpAny_bind (wpAny_bind (wpAny_mono h₃ (fun x s₄ h₄ => wpAny_bind (wpAny_mono h₄ (fun _ s₅ h₅ => wpAny_pure (wpAny_pure ⟨rfl, h₅⟩)) fun _ _ z => False.elim z)) fun _ _ z => False.elim z))
end

/-- the target stores into the block's own names alone -/
def LcExt (own : List Str) (cap : List Nat) (σ σ2 : St) : Prop := ∀ i, own.length ≤ i → σ2[i]? = (lcSt own cap σ)[i]?
theorem lcExt_set {own : List Str} {cap : List Nat} {σ : St} {j : Nat} {v : Option V} (h : j < own.length) : LcExt own cap σ ((lcSt own cap σ).set j v) := fun i hi => List.getElem?_set_ne (by omega)
theorem lcExt_set2 {own : List Str} {cap : List Nat} {σ : St} {j k : Nat} {v w : Option V} (h : j < own.length) (h' : k < own.length) : LcExt own cap σ (((lcSt own cap σ).set j v).set k w) := fun i hi =>
  (List.getElem?_set_ne (by omega)).trans (List.getElem?_set_ne (by omega))
/-- the reading of the block: W by the turn, a measure, the items so far -/
def tLcB (own : List Str) (cap : List Nat) (g : TG) (tc : TT) (te : TE) (J : It) (σ : St) (H1 : Hp) (Q : VK) : Prop :=
  ∀ D, H1 D = none → ∃ W : Nat → Nat → List V → Hp → Prop, (∃ m, W 0 m [] (upd H1 D (.lst []))) ∧ ∀ i m ys H, W i m ys H →
    (J.stop i H ∧ Q (.ref D) H) ∨ (J.go i H ∧ ∀ x H', J.yld i H x H' → g x (lcSt own cap σ) H' fun σ2 H2 => LcExt own cap σ σ2 ∧ tc σ2 H2 fun b H3 =>
      if b = true then te σ2 H3 fun y H4 => H4 D = some (.lst ys) ∧ ys.length < sizeLine ∧ ∃ m', m' < m ∧ W (i + 1) m' (ys ++ [y]) (upd H4 D (.lst (ys ++ [y]))) else ∃ m', m' < m ∧ W (i + 1) m' ys H3)

section
variable {X : Cx} {N own : List Str} {cap : List Nat} {sc scope : Scope} {elt tg iter : Expr} {ifs : List Expr} {pos : Pos} {g : TG} {tc : TT} {te : TE}
theorem lc_block (L : LcSc N sc own cap scope) (hN : X.N = N) (hsc : X.env.scope = sc) (hc : X.calm = true)
    (hg : ∀ cl C s H fp, PG (cxLc X (lcN N own cap) scope cl C s H fp) tg g) (hi : ∀ cl C s H fp, PIf (cxLc X (lcN N own cap) scope cl C s H fp) ifs tc) (he : ∀ cl C s H fp, PE (cxLc X (lcN N own cap) scope cl C s H fp) elt te)
    {pins : List (Addr × Obj)} {σ : St} {H : Hp} {s : Shared} {it : Addr} {fp : List Addr} {tn : Nat → Heap → Prop} {J : It} {Q : VK} {E : Value → Shared → Prop} {RR : Value → Addr → Result → Shared → Prop}
    (I : Inv X pins σ H s) (T : Turn X.prog X.w X.K tg J fp it tn) (st : tn 0 s.heap) (hf : ∀ b ∈ fp, FpOk X pins H b) (q : tLcB own cap g tc te J σ H Q)
    (fin : ∀ D C H' s' m, Inv X pins σ H' s' → FpOk X pins H' C → s'.heap.Ns C m → Q (.ref D) H' → RR (.ref D) C (.ok .next) s') :
    wpAny (model X.prog X.w) X.A (newList []) (fun acc s₃ => wpAny (model X.prog X.w) X.A (newFunctionEnv scope X.env.globals (clos X.env scope.names) [] X.env.qual none .none (some X.env)) (fun cenv s₄ =>
      codeAny (model X.prog X.w) X.A (.compStart (.ListComp elt [⟨tg, iter, ifs, 0⟩] scope pos) 0 (.ref it) acc { cenv with scope := relabel scope X.env }) (RR acc cenv.locals) s₄) E s₃) E s := by
  refine wpAny_newObj_type (wpAny_newFunctionEnv L.nocell (by intro y hy; simp at hy) (fun h₁ hns₁ hsb₁ => ?_) L.kind)
  dsimp only at hns₁ hsb₁ ⊢
  have hD : H s.heap.objs.size = none := I.hok.fresh (Nat.le_refl _)
  obtain ⟨W, ⟨m0, w0⟩, turn⟩ := q _ hD
  have I3 : Inv X pins σ (upd H s.heap.objs.size (.lst [])) { s with heap := s.heap.push { cls := .type "list", data := .seq ([] : List Value).toArray }, toks := s.toks } := I.lnew (its := []) .nil (Nat.zero_le _)
  have ltb : ∀ b ∈ fp, b < s.heap.objs.size := fun b hb => by obtain ⟨o, e, _⟩ := T.obj _ _ st b hb; exact Heap.lt_size e
  have hf3 : ∀ b ∈ fp, FpOk X pins (upd H s.heap.objs.size (.lst [])) b := fun b hb => ⟨by rw [upd_ne (Nat.ne_of_lt (ltb b hb))]; exact (hf b hb).1, (hf b hb).2⟩
  generalize hH2 : s.heap.push { cls := .type "list", dict := none, data := .seq ([] : List Value).toArray } = h2 at hns₁ hsb₁ I3 ⊢
  have hz : h2.objs.size = s.heap.objs.size + 1 := by rw [← hH2, Heap.size_push]
  have kp2 : ∀ b o, h2.get? b = some o → h₁.get? b = some o := fun b o e => hsb₁.extBut b o (Nat.ne_of_lt (Heap.lt_size e)) (Heap.get?_push_of_some _ e)
  have kp1 : ∀ b o, s.heap.get? b = some o → h2.get? b = some o := fun b o e => by rw [← hH2]; exact Heap.get?_push_of_some _ e
  have I4 : Inv (cxLc X (lcN N own cap) scope (clos X.env scope.names) h2.objs.size { s with heap := h2, toks := s.toks } (upd H s.heap.objs.size (.lst [])) fp) [] (lcSt own cap σ) (upd H s.heap.objs.size (.lst [])) { s with heap := h₁, toks := s.toks + ([] : List (Str × Value)).length } :=
    lc_start L hN hsc I3 hf3 (fun b hb => by show b < h2.objs.size; rw [hz]; exact Nat.lt_succ_of_lt (ltb b hb)) hns₁ kp2
  have st4 : tn 0 h₁ := T.keep _ _ _ st fun b _ o e => kp2 b o (kp1 b o e)
  have loop : ∀ s₃ : Shared, s₃ = { s with heap := h₁, toks := s.toks + ([] : List (Str × Value)).length } →
      codeAny (model X.prog X.w) X.A (.compLoop (.ListComp elt [⟨tg, iter, ifs, 0⟩] scope pos) 0 (.ref it) (.ref s.heap.objs.size) (compEnvC scope (clos X.env scope.names) h2.objs.size X.env))
        (RR (.ref s.heap.objs.size) h2.objs.size) s₃ := by
    rintro s₃ rfl
    generalize hX' : cxLc X (lcN N own cap) scope (clos X.env scope.names) h2.objs.size { s with heap := h2, toks := s.toks } (upd H s.heap.objs.size (.lst [])) fp = X' at I4
    have eP : X'.prog = X.prog := by rw [← hX']
    have eA : X'.A = X.A := by rw [← hX']
    have stat : ∀ {H' : Hp} {pl : List (Addr × Obj)} {σ' : St} {s' : Shared}, Inv X' pl σ' H' s' → (∀ b ∈ fp, H' b = none) → pl = [] → ∀ b ∈ fp, FpOk X' pl H' b := fun {H' pl σ' s'} I' hn hp b hb => by
      subst hp
      have hex : b ∈ X'.ex := by rw [← hX']; exact hb
      refine ⟨hn b hb, (I'.ok.exf b hex).1, I'.ok.exfs b hex, .inl hex, (I'.ok.exf b hex).2, fun p hp => ?_⟩
      have hp' : p ∈ X'.pn ++ [] := hp
      rw [← hX'] at hp'
      exact absurd (show p ∈ ([] : List (Addr × Obj)) from hp') (by simp)
    subst hX'
    refine compLoop_gen (fun n s' => ∃ i ys H', Inv (cxLc X (lcN N own cap) scope (clos X.env scope.names) h2.objs.size { s with heap := h2, toks := s.toks } (upd H s.heap.objs.size (.lst [])) fp) [] (lcSt own cap σ) H' s' ∧ tn i s'.heap ∧ (∀ b ∈ fp, H' b = none) ∧ W i n ys H') ?_ m0
      ⟨0, [], _, I4, st4, fun b hb => (hf3 b hb).1, w0⟩
    rintro n s3 ⟨i, ys, H3, I3', st3, fr3, w3⟩
    rcases turn i n ys H3 w3 with ⟨stop, qn⟩ | ⟨go, step⟩
    · refine thn (T.done (cxLc X (lcN N own cap) scope (clos X.env scope.names) h2.objs.size { s with heap := h2, toks := s.toks } (upd H s.heap.objs.size (.lst [])) fp) rfl rfl rfl hc i [] s3 _ H3 (fun _ _ => False) I3' (stat I3' fr3 rfl) st3 stop) fun r s4 ⟨hr, I4'⟩ => ?_
      subst hr
      obtain ⟨m', hm', _⟩ := I4'.loc
      exact fin _ _ H3 s4 m' (lc_back I3 hf3 I4') (I3.fpOk (Nat.le_refl _) I4'.free) hm' qn
    · refine thn (T.item (cxLc X (lcN N own cap) scope (clos X.env scope.names) h2.objs.size { s with heap := h2, toks := s.toks } (upd H s.heap.objs.size (.lst [])) fp) rfl rfl rfl hc i [] s3 _ H3 (fun _ _ => False) I3' (stat I3' fr3 rfl) st3 go) fun r s4 ⟨u, hr, h4⟩ => ?_
      subst hr
      refine thn h4 fun _ s5 ⟨x, H5, I5, r5, y5, st5, fr5⟩ => ?_
      have I5' := I5.pinned (stat I5 fr5 rfl) (T.obj _ _ st5)
      have pk : ∀ {σ7 : St} {H7 : Hp} {s7 : Shared}, Inv (cxLc X (lcN N own cap) scope (clos X.env scope.names) h2.objs.size { s with heap := h2, toks := s.toks } (upd H s.heap.objs.size (.lst [])) fp) ([] ++ pinsAt fp s5.heap) σ7 H7 s7 → tn (i + 1) s7.heap ∧ ∀ b ∈ fp, H7 b = none := fun {σ7 H7 s7} I7 =>
        ⟨T.keep _ _ _ st5 fun b hb o e => (I7.pin (b, o) (List.mem_append_right _ (List.mem_append_right _ (mem_pinsAt hb e)))).1, fun b hb => by
          obtain ⟨o, e, d⟩ := T.obj _ _ st5 b hb
          exact (I7.pin (b, o) (List.mem_append_right _ (List.mem_append_right _ (mem_pinsAt hb e)))).2.1⟩
      have wk : ∀ {σ7 : St} {H7 : Hp} {s7 : Shared}, LcExt own cap σ σ7 → Inv (cxLc X (lcN N own cap) scope (clos X.env scope.names) h2.objs.size { s with heap := h2, toks := s.toks } (upd H s.heap.objs.size (.lst [])) fp) ([] ++ pinsAt fp s5.heap) σ7 H7 s7 →
          Inv (cxLc X (lcN N own cap) scope (clos X.env scope.names) h2.objs.size { s with heap := h2, toks := s.toks } (upd H s.heap.objs.size (.lst [])) fp) [] (lcSt own cap σ) H7 s7 := fun {σ7 H7 s7} ext I7 =>
        Inv.weak I7.unpinned (by rw [I7.len, I5.len]) fun j v e => by
          have hj : own.length ≤ j := by
            by_cases hj : own.length ≤ j
            · exact hj
            · have e' : (List.replicate own.length none ++ cap.map fun i => σ.getD i none)[j]? = some (some v) := e
              rw [List.getElem?_append_left (by simp only [List.length_replicate]; omega), List.getElem?_replicate] at e'
              split at e' <;> cases e'
          rw [ext j hj]
          exact e
      refine thn (hg _ _ _ _ _ _ s5 _ H5 x u _ I5' r5 (step x H5 y5)) fun _ s6 ⟨σ6, H6, I6, ext, q6⟩ => ?_
      refine thn (hi _ _ _ _ _ _ s6 σ6 H6 _ I6 q6) fun ok s7 ⟨H7, I7, q7⟩ => ?_
      cases ok with
      | false =>
        rw [if_neg Bool.false_ne_true] at q7 ⊢
        obtain ⟨m', hm, w7⟩ := q7
        exact ⟨m', hm, i + 1, ys, H7, wk ext I7, (pk I7).1, (pk I7).2, w7⟩
      | true =>
        rw [if_pos rfl] at q7 ⊢
        refine thn (he _ _ _ _ _ _ s7 σ6 H7 _ I7 q7) fun y s8 ⟨yv, H8, I8, r8, hl8, hz8, m', hm, w8⟩ => ?_
        refine thn (mt_append _ s8 σ6 H8 (.ref s.heap.objs.size) [yv] _ [y] (fun v H' => v = .non ∧ H' = upd H8 s.heap.objs.size (.lst (ys ++ [yv]))) I8 rfl (.cons r8 .nil) ⟨_, ys, yv, rfl, rfl, hl8, hz8, rfl, rfl⟩) fun _ s9 ⟨v9, H9, I9, _, _, e9⟩ => ?_
        subst e9
        exact ⟨m', hm, i + 1, ys ++ [yv], _, wk ext I9, (pk I9).1, (pk I9).2, w8⟩
  exact codeAny_compStart_list (loop _ rfl) (T.self X.A 0 _ _ _ st4 (loop _ rfl))
/-- the whole -/
def tLc (own : List Str) (cap : List Nat) (wi : TI) (g : TG) (tc : TT) (te : TE) : TE := fun σ H Q => wi σ H fun J H1 => tLcB own cap g tc te J σ H1 Q
theorem pe_lc {wi : TI} (L : LcSc N sc own cap scope) (hp : PI X tg iter wi)
    (hg : ∀ cl C s H fp, PG (cxLc X (lcN N own cap) scope cl C s H fp) tg g) (hi : ∀ cl C s H fp, PIf (cxLc X (lcN N own cap) scope cl C s H fp) ifs tc) (he : ∀ cl C s H fp, PE (cxLc X (lcN N own cap) scope cl C s H fp) elt te)
    (hN : X.N = N := by rfl) (hsc : X.env.scope = sc := by rfl) (hc : X.calm = true := by rfl) (hs : ∀ x, foldedSetIterable iter X.env x = pure x := by intro _; rfl) :
    PE X (.ListComp elt [⟨tg, iter, ifs, 0⟩] scope pos) (tLc own cap wi g tc te) := by
  intro pins s σ H Q I h
  rw [eval_ListComp]
  refine wpAny_comprehension_free (use := none) rfl hs (closureFor_clos (L.cells hsc I.ok)) L.kind L.loc (thn (hp pins s σ H _ I h) fun v s1 h1 => thn h1 fun itv s2 h2 => ?_)
  obtain ⟨it, fp, tn, J, H2, e, I2, T, st2, f2, q2⟩ := h2
  subst e
  refine lc_block (RR := fun acc C => compPost (model X.prog X.w) X.A X.xe none (EP X pins σ Q) acc C) L hN hsc hc hg hi he I2 T st2 f2 q2 ?_
  intro D C H' s' m J' fC hm q
  refine ⟨m, hm, fun h' sb => ⟨.ref D, H', ?_, rfl, q⟩⟩
  exact J'.turned (t' := s'.toks) (it := C) (fun b o hb e => (sb.2 b hb).trans e) fC.1 fC.2.1 fC.2.2.2.1 fC.2.2.2.2.1 fC.2.2.2.2.2
/-- name = [.. for ..], the name a plain local one, on one line: the store stands ahead of the block's end -/
theorem ps_set_lc {wi : TI} {i : Nat} {x : Str} {pos' spos : Pos} (hNd : X.N.Nodup) (hix : X.N[i]? = some x) (hx : X.env.scope.names.lookup x = some .local) (L : LcSc N sc own cap scope) (hp : PI X tg iter wi)
    (hg : ∀ cl C s H fp, PG (cxLc X (lcN N own cap) scope cl C s H fp) tg g) (hi : ∀ cl C s H fp, PIf (cxLc X (lcN N own cap) scope cl C s H fp) ifs tc) (he : ∀ cl C s H fp, PE (cxLc X (lcN N own cap) scope cl C s H fp) elt te)
    (hN : X.N = N := by rfl) (hsc : X.env.scope = sc := by rfl) (hc : X.calm = true := by rfl) (hs : ∀ x, foldedSetIterable iter X.env x = pure x := by intro _; rfl)
    (hsw : swapsWith (.ListComp elt [⟨tg, iter, ifs, 0⟩] scope pos) (some (.Name x pos')) spos.line X.env = pure true := by rfl) :
    PS X (.Assign [.Name x pos'] (.ListComp elt [⟨tg, iter, ifs, 0⟩] scope pos) spos) (tAsg (tLc own cap wi g tc te) (gName i)) := by
  intro pins s σ H D I h
  rw [exec_Assign_Name_used _ _ _ _ hsw]
  refine wpAny_bind (wpAny_standAt (wpAny_bind ?_))
  show wpAny _ X.A (do let _ ← comprehension (.ListComp elt [⟨tg, iter, ifs, 0⟩] scope pos) scope X.env _ (newList []) false (eval iter X.env) (some (assign (.Name x pos') X.env))) _ _ s
  refine wpAny_bind (thn (wpAny_comprehension_free (use := some (assign (.Name x pos') X.env)) (Q := fun _ s' => SP X pins D .next s') rfl hs (closureFor_clos (L.cells hsc I.ok)) L.kind L.loc (thn (hp pins s σ H _ I h) fun v s1 h1 => thn h1 fun itv s2 h2 => ?_)) fun _ s' hq => wpAny_pure (wpAny_pure hq))
  obtain ⟨it, fp, tn, J, H2, e, I2, T, st2, f2, q2⟩ := h2
  subst e
  refine lc_block (RR := fun acc C => compPost (model X.prog X.w) X.A X.xe (some (assign (.Name x pos') X.env)) (fun _ s' => SP X pins D .next s') acc C) L hN hsc hc hg hi he I2 T st2 f2 q2 ?_
  intro D' C H' s' m J' fC hm q
  show wpAny _ X.A (assign (.Name x pos') X.env (.ref D')) _ _ s'
  refine wpAny_assign_Name (store_ok2 (v := .ref D') J' hNd hix (.inl hx) rfl (fun s'' I'' chg => ?_) (.inr hx))
  obtain ⟨a, sb, ha⟩ := chg
  have hCa : C ≠ a := by
    rcases ha with e | e
    · rw [e]; exact fC.2.1
    · exact fun z => fC.2.2.2.2.1 x a e z.symm
  refine ⟨m, hm.sameBut sb hCa, fun h' sb' => ⟨_, H', ?_, q⟩⟩
  exact I''.turned (t' := s''.toks) (it := C) (fun b o hb e => (sb'.2 b hb).trans e) fC.1 fC.2.1 fC.2.2.2.1 fC.2.2.2.2.1 fC.2.2.2.2.2
end
end L2
/-! TEXTS over the layer: by their codes. -/
namespace L2
open PySem PySem.Spec PyProof.Rows

/-- the text of these codes -/
def tx (l : List Nat) : Str := ⟨l.toArray⟩
theorem tx_toList (l : List Nat) : (tx l).cps.toList = l := rfl
theorem tx_len (l : List Nat) : (tx l).length = l.length := by simp [tx, Str.length]
theorem tx_size (l : List Nat) : (tx l).cps.size = l.length := by simp [tx]
theorem tx_inj {a b : List Nat} (h : tx a = tx b) : a = b := by
  have := congrArg (fun x : Str => x.cps.toList) h
  simpa [tx] using this
theorem tx_of (x : Str) : tx x.cps.toList = x := by
  cases x; simp [tx]
theorem tx_app (a b : List Nat) : tx a ++ tx b = tx (a ++ b) := by
  show (⟨(tx a).cps ++ (tx b).cps⟩ : Str) = _
  simp [tx]
theorem dec_tx {a b : List Nat} : decide (V.str (tx a) = V.str (tx b)) = decide (a = b) := by
  refine decide_eq_decide.mpr ⟨fun h => tx_inj (by injection h), fun h => by rw [h]⟩

/-- l[lo:hi] -/
def cutL (l : List Nat) (lo hi : Option Int) : List Nat := (l.drop (HT.sIx l.length 0 lo)).take (HT.sIx l.length l.length hi - HT.sIx l.length 0 lo)
theorem cutL_length (l : List Nat) (lo hi : Option Int) : (cutL l lo hi).length ≤ l.length := by
  unfold cutL
  rw [List.length_take, List.length_drop]
  omega
theorem cutL_to (l : List Nat) (k : Nat) : cutL l none (some (k : Int)) = l.take k := by
  unfold cutL
  rw [HT.sIx_none, HT.sIx_nat, List.drop_zero, Nat.sub_zero]
  by_cases h : k ≤ l.length
  · rw [Nat.min_eq_left h]
  · rw [Nat.min_eq_right (by omega), List.take_length, List.take_of_length_le (by omega)]
theorem cutL_from (l : List Nat) (k : Nat) : cutL l (some (k : Int)) none = l.drop k := by
  unfold cutL
  rw [HT.sIx_none, HT.sIx_nat]
  by_cases h : k ≤ l.length
  · rw [Nat.min_eq_left h, List.take_of_length_le (by rw [List.length_drop]; omega)]
  · rw [Nat.min_eq_right (by omega), Nat.sub_self, List.take_zero, List.drop_of_length_le (by omega)]
theorem strSliceIndices_one (lo hi : Option Int) (n : Nat) : Builtin.Str.strSliceIndices lo hi 1 n = (List.range (HT.sIx n n hi - HT.sIx n 0 lo)).map (HT.sIx n 0 lo + ·) := by
  rw [← sliceRange_one]
  unfold Builtin.Str.strSliceIndices
  simp only [show (1 : Int) > 0 by decide, if_true]
  congr 1
  · cases lo with
    | none => rfl
    | some i =>
      show max 0 (min (if i < 0 then i + (n : Int) else i) (n : Int)) = (((if i < 0 then (i + (n : Int)).toNat else min i.toNat n) : Nat) : Int)
      by_cases h : i < 0
      · simp only [if_pos h]; omega
      · simp only [if_neg h]; omega
  · cases hi with
    | none => rfl
    | some i =>
      show max 0 (min (if i < 0 then i + (n : Int) else i) (n : Int)) = (((if i < 0 then (i + (n : Int)).toNat else min i.toNat n) : Nat) : Int)
      by_cases h : i < 0
      · simp only [if_pos h]; omega
      · simp only [if_neg h]; omega
theorem picked_cut (l : List Nat) (lo hi : Option Int) : (Builtin.Str.strSliceIndices lo hi 1 (tx l).length).filterMap ((tx l).cps[·]?) = cutL l lo hi := by
  rw [strSliceIndices_one, tx_len, pick_run, tx_toList]
  rfl
def rSlS : V → Option Int → Option Int → Hp → VK → Prop := fun x lo hi H Q => ∃ l, x = .str (tx l) ∧ l.length ≤ sizeLine ∧ Q (.str (tx (cutL l lo hi))) H
section
variable {X : Cx}
theorem isPart_of {v : Value} {o : Option Int} (p : IsPart v o) : ∃ q : Option (Int × Tok), v = partValue q ∧ q.map (·.1) = o := by
  cases p with
  | none => exact ⟨none, rfl, rfl⟩
  | int i t => exact ⟨some (i, t), rfl, rfl⟩
theorem sl_str : SlR X rSlS := by
  intro pins s σ H x v vl vu lo hi sl Q I rx hs pl pu h
  obtain ⟨l, rfl, hz, q⟩ := h
  obtain ⟨t, rfl⟩ := rx
  obtain ⟨ql, rfl, el⟩ := isPart_of pl
  obtain ⟨qu, rfl, eu⟩ := isPart_of pu
  refine ⟨"str", _, slot_str_getitem.lookup, typeIs_str s (tx l) t, ?_⟩
  obtain ⟨o, ho, hc, hd⟩ := hs
  refine wpAny_getItem_str_slice (l := ql) (u := qu) (st := none) ⟨o, ho, hc, hd⟩ rfl ?_
  have pk : slicePicked (tx l) ql qu none = Builtin.Str.strSliceIndices lo hi 1 (tx l).length := by
    unfold slicePicked
    rw [el, eu]
    rfl
  unfold sliceMade
  rw [pk]
  have pc := picked_cut l lo hi
  split
  · rename_i hw
    have hw2 : (Builtin.Str.strSliceIndices lo hi 1 (tx l).length).length = (tx l).length := by
      simp only [Bool.and_eq_true] at hw
      simpa using hw.2
    have e : cutL l lo hi = l := by
      rw [strSliceIndices_one, List.length_map, List.length_range, tx_len] at hw2
      have h1 := HT.sIx_le l.length 0 (Nat.zero_le _) lo
      have h2 := HT.sIx_le l.length l.length (Nat.le_refl _) hi
      unfold cutL
      have e1 : HT.sIx l.length 0 lo = 0 ∨ l.length = 0 := by omega
      rcases e1 with e1 | e1
      · rw [e1, List.drop_zero, List.take_of_length_le (by omega)]
      · have : l = [] := List.length_eq_zero_iff.mp e1
        subst this
        simp
    exact ⟨.str (tx l), H, I, ⟨t, rfl⟩, by rw [e] at q; exact q⟩
  · rw [pc]
    refine ⟨?_, ?_⟩
    · show (tx (cutL l lo hi)).length ≤ sizeLine
      rw [tx_len]
      exact Nat.le_trans (cutL_length l lo hi) hz
    · exact ⟨.str (tx (cutL l lo hi)), H, I.tok _, ⟨_, rfl⟩, q⟩
/-- + -/
theorem op_add_tx : OpR X (binaryOp .Add) (fun x y H Q => ∃ a b, x = .str (tx a) ∧ y = .str (tx b) ∧ a.length + b.length ≤ sizeLine ∧ Q (.str (tx (a ++ b))) H) := by
  intro pins s σ H x y v u Q I rx ry h
  obtain ⟨a, b, rfl, rfl, hz, q⟩ := h
  exact op_add_str pins s σ H _ _ v u Q I rx ry ⟨_, _, rfl, rfl, by rw [tx_len, tx_len]; exact hz, by rw [tx_app]; exact q⟩
/-- text * n -/
def repL (n : Int) (l : List Nat) : List Nat := (List.replicate n.toNat l).flatten
theorem foldl_repA (c : Array Nat) : ∀ (k : Nat) (acc : Array Nat), List.foldl (fun x1 x2 => x1 ++ x2) acc (List.replicate k c) = (acc.toList ++ (List.replicate k c.toList).flatten).toArray
  | 0, acc => by simp
  | k + 1, acc => by
    rw [List.replicate_succ, List.foldl_cons, foldl_repA c k (acc ++ c), List.replicate_succ, List.flatten_cons]
    simp
theorem op_mul_tx : OpR X (binaryOp .Mult) (fun x y H Q => ∃ l n, x = .str (tx l) ∧ y = .int n ∧ -(2 ^ 62) < n ∧ n < 2 ^ 62 ∧ l.length * n.toNat ≤ sizeLine ∧ Q (.str (tx (repL n l))) H) := by
  intro pins s σ H x y v u Q I rx ry h
  obtain ⟨l, n, rfl, rfl, h1, h2, hz, q⟩ := h
  obtain ⟨t, rfl⟩ := rx
  obtain ⟨t', rfl⟩ := ry
  have hs : sizeLine = 16777216 := sizeLine_eq
  refine PySem.P.mul_str ?_ ?_ ?_ ?_
  · rw [decide_eq_false (by omega), decide_eq_false (by omega)]; rfl
  · intro hn _ hgt
    rw [tx_len] at hgt
    have hp : 0 < n := by omega
    have : (l.length : Int) * n ≤ 16777216 := by
      have e : ((l.length * n.toNat : Nat) : Int) = (l.length : Int) * n := by
        rw [Int.natCast_mul, Int.toNat_of_nonneg (by omega)]
      rw [← e]
      omega
    have h3 : (2 ^ 63 - 1) / n < (l.length : Int) := hgt
    have h4 : (2 ^ 63 - 1 : Int) < (l.length : Int) * n := Int.lt_mul_of_ediv_lt hp h3
    omega
  · intro _ _
    rw [tx_len]
    unfold Builtin.Str.tooLong
    exact decide_eq_false (by omega)
  · by_cases hn : n < 1
    · rw [if_pos hn]
      have e : repL n l = [] := by
        unfold repL
        rw [Int.toNat_of_nonpos (by omega)]
        rfl
      rw [e] at q
      exact ⟨by decide, .str (tx []), H, I.tok _, ⟨_, rfl⟩, q⟩
    · rw [if_neg hn]
      split
      · rename_i hw
        have e : repL n l = l := by
          unfold repL
          rw [Bool.or_eq_true] at hw
          rcases hw with hw | hw
          · have : n = 1 := by simpa using hw
            subst this
            simp
          · rw [tx_len] at hw
            have : l = [] := List.length_eq_zero_iff.mp (by simpa using hw)
            subst this
            simp
        rw [e] at q
        exact ⟨.str (tx l), H, I, ⟨_, rfl⟩, q⟩
      · have e : (⟨(List.replicate n.toNat (tx l).cps).foldl (· ++ ·) #[]⟩ : Str) = tx (repL n l) := by
          rw [foldl_repA, tx_toList]
          simp [tx, repL]
        rw [e]
        refine ⟨?_, .str (tx (repL n l)), H, I.tok _, ⟨_, rfl⟩, q⟩
        rw [tx_len]
        unfold repL
        rw [len_rep, Nat.mul_comm]
        exact hz
/-- text.endswith(text) -/
theorem endswith_suf (a b : List Nat) : Txt.endswith (tx a) (tx b) = decide (b <:+ a) := by
  unfold Txt.endswith Builtin.Str.subAt
  rw [tx_len, tx_len]
  by_cases h : b.length ≤ a.length
  · rw [decide_eq_true (by omega), Bool.true_and]
    rw [Bool.eq_iff_iff, decide_eq_true_iff, beq_iff_eq]
    have e : (tx a).cps.extract (a.length - b.length) (a.length - b.length + b.length) = (a.drop (a.length - b.length)).toArray := by
      have : a.length - b.length + b.length = a.length := by omega
      rw [this]
      apply Array.ext'
      simp only [tx, Array.toList_extract, List.extract]
      rw [List.take_of_length_le (by rw [List.length_drop]; exact Nat.le_refl _)]
    rw [e]
    constructor
    · intro h'
      have h2 : a.drop (a.length - b.length) = b := by
        have := congrArg Array.toList h'
        simpa [tx] using this
      rw [← h2]
      exact List.drop_suffix _ _
    · intro h'
      rw [List.suffix_iff_eq_drop] at h'
      rw [← h']
      rfl
  · rw [decide_eq_false (by omega), Bool.false_and]
    symm
    apply decide_eq_false
    intro h'
    exact h h'.length_le
theorem startswith_pre (a b : List Nat) : Txt.startswith (tx a) (tx b) = decide (b <+: a) := by
  unfold Txt.startswith Builtin.Str.subAt
  rw [tx_len, tx_len]
  by_cases h : b.length ≤ a.length
  · rw [decide_eq_true (by omega), Bool.true_and]
    rw [Bool.eq_iff_iff, decide_eq_true_iff, beq_iff_eq]
    have e : (tx a).cps.extract 0 (0 + b.length) = (a.take b.length).toArray := by
      apply Array.ext'
      simp [tx]
    rw [e]
    constructor
    · intro h'
      have h2 : a.take b.length = b := by
        have := congrArg Array.toList h'
        simpa [tx] using this
      rw [← h2]
      exact List.take_prefix _ _
    · intro h'
      rw [List.prefix_iff_eq_take] at h'
      rw [← h']
      rfl
  · rw [decide_eq_false (by omega), Bool.false_and]
    symm
    apply decide_eq_false
    intro h'
    exact h h'.length_le
def rEndsW : V → List V → Hp → VK → Prop := fun x vs H Q => ∃ a b, x = .str (tx a) ∧ vs = [.str (tx b)] ∧ Q (.bl (decide (b <:+ a))) H
theorem mt_endswith : MtR X "str.endswith" rEndsW := by
  intro pins s σ H x vs v us Q I rx rv h
  obtain ⟨a, b, rfl, rfl, q⟩ := h
  obtain ⟨t, rfl⟩ := rx
  obtain ⟨u, rfl, t', rfl⟩ := vals1 rv
  refine PySem.SC.endswith ?_
  rw [endswith_suf]
  exact ⟨.bl _, H, I, rfl, q⟩
/-- "".join(list of texts) -/
theorem glued_nil (ls : List (List Nat)) : Txt.join (tx []) (ls.map tx) = tx ls.flatten := by
  show (⟨((ls.map tx).drop 1).foldl (fun acc p => acc ++ (tx []).cps ++ p.cps) ((ls.map tx).headD Str.empty).cps⟩ : Str) = _
  have key : ∀ (r : List (List Nat)) (acc : Array Nat), (r.map tx).foldl (fun acc p => acc ++ (tx []).cps ++ p.cps) acc = (acc.toList ++ r.flatten).toArray := by
    intro r
    induction r with
    | nil => intro acc; simp
    | cons a r ih =>
      intro acc
      rw [List.map_cons, List.foldl_cons, ih]
      simp [tx]
  cases ls with
  | nil => rfl
  | cons a r =>
    rw [List.map_cons, List.drop_one, List.tail_cons, key]
    simp [tx]
theorem strsAre_of : ∀ {ls : List (List Nat)} {us : List Value}, Vals (ls.map fun l => V.str (tx l)) us → StrsAre us (ls.map tx)
  | [], us, r => by rw [List.map_nil] at r; cases r; exact .nil
  | l :: ls, us, r => by
    rw [List.map_cons] at r
    cases r with
    | cons r1 r2 =>
      obtain ⟨t, e⟩ := r1
      subst e
      exact .cons _ t (strsAre_of r2)
def rJoin (K : PySem.W.Frag) : V → List V → Hp → VK → Prop := fun x vs H Q => ∃ (p : Addr) (ls : List (List Nat)), x = .str (tx []) ∧ vs = [.ref p] ∧ SqL K H p (ls.map fun l => V.str (tx l)) ∧ ls.flatten.length ≤ sizeLine ∧ Q (.str (tx ls.flatten)) H
theorem sum_len (ls : List (List Nat)) : ((ls.map tx).map (·.length)).sum = ls.flatten.length := by
  induction ls with
  | nil => rfl
  | cons a r ih =>
    rw [List.map_cons, List.map_cons, List.sum_cons, ih, List.flatten_cons, List.length_append, tx_len]
theorem mt_join : MtR X "str.join" (rJoin X.K) := by
  intro pins s σ H x vs v us Q I rx rv h
  obtain ⟨p, ls, rfl, rfl, hq, hz, q⟩ := h
  obtain ⟨t, rfl⟩ := rx
  obtain ⟨u, rfl, ru⟩ := vals1 rv
  cases ru
  obtain ⟨its, r, pl, hl⟩ := I.list hq
  have hs : sizeLine = 16777216 := sizeLine_eq
  refine join_list pl.isList (by simpa using strsAre_of r) ?_ fun t' k => ?_
  · rw [sum_len, tx_len]
    simp only [List.length_nil, Nat.mul_zero, Nat.add_zero]
    omega
  · rw [glued_nil]
    exact ⟨.str (tx ls.flatten), H, I.tok _, ⟨_, rfl⟩, q⟩
/-- <= of texts, of single signs -/
theorem op_le_str : OpR X (compareOp .LtE) (fun x y H Q => ∃ a b, x = .str (tx a) ∧ y = .str (tx b) ∧ Q (.bl (!decide (b < a))) H) := by
  intro pins s σ H x y v u Q I rx ry h
  obtain ⟨a, b, rfl, rfl, q⟩ := h
  obtain ⟨t, rfl⟩ := rx
  obtain ⟨t', rfl⟩ := ry
  exact PySem.P.le_str (fin_bl I q rfl)
theorem lt_one (a b : Nat) : decide ([b] < [a]) = decide (b < a) := by
  refine decide_eq_decide.mpr ?_
  rw [List.cons_lt_cons_iff]
  simp
/-- len(text) -/
theorem call_len_tx : CallR X (.builtin "len") (fun xs H Q => ∃ l, xs = [.str (tx l)] ∧ l.length ≤ sizeLine ∧ Q (.int l.length) H) := by
  intro pins s σ H xs us Q I r h
  obtain ⟨l, rfl, hz, q⟩ := h
  exact call_len_str pins s σ H _ us Q I r ⟨_, rfl, by rw [tx_len]; exact hz, by rw [tx_len]; exact q⟩
/-- text[i] -/
def rIxX : R2 := fun x y H Q => ∃ l k c, x = .str (tx l) ∧ y = .int ((k : Nat) : Int) ∧ l.length ≤ sizeLine ∧ l[k]? = some c ∧ Q (.str (tx [c])) H
theorem ix_tx : IxR X rIxX := by
  intro value slice pins s σ H x y v u Q I rx ry h hs
  obtain ⟨l, k, c, rfl, rfl, hz, hc, q⟩ := h
  exact ix_str value slice pins s σ H _ _ v u Q I rx ry ⟨tx l, _, c, rfl, rfl, by rw [tx_len]; exact hz, atI_nat (by rw [tx_toList]; exact hc), q⟩ hs
end
end L2
/-! WALKS: a text's signs, enumerate of a list, range by steps. CALLS: sum, all, isinstance, list(reversed(..)); == of lists of ints. -/
namespace L2
open PySem PySem.Spec PyProof.Rows

/-! ### a text's signs -/
def Itc (l : List Nat) : It := ⟨fun i _ => i < l.length, fun i H x H' => H' = H ∧ ∃ c, l[i]? = some c ∧ x = .str (tx [c]), fun i _ => l.length ≤ i⟩
theorem strIter_cases (x : Str) : strIterType x = "str_ascii_iterator" ∨ strIterType x = "str_iterator" := by
  unfold strIterType
  split
  · exact .inl rfl
  · exact .inr rfl
theorem turn_str {P : Program} {w : World} {K : PySem.W.Frag} {tg : Expr} (it : Addr) (l : List Nat) (t : Tok) (ty : String) (hty : ty = "str_ascii_iterator" ∨ ty = "str_iterator") : Turn P w K tg (Itc l) [it] it (fun i h => h.IsStrIter it ty (tx l) t i) where
  mem := by simp
  obj := fun i h st b hb => by
    have e : b = it := by simpa using hb
    subst e
    obtain ⟨o, e, c, d⟩ := st
    exact ⟨o, e, fun v z => by rw [d] at z; cases z⟩
  keep := fun i h h' st k => by
    obtain ⟨o, e, r⟩ := st
    exact ⟨o, k it (by simp) o e, r⟩
  item := by
    intro X hP hw hK hc i pins s σ H E I hf st hg
    subst hP hw hK
    obtain ⟨f0, f1, f2, f3, f4, f5⟩ := hf it (by simp)
    have hgl : i < l.length := hg
    have hx : (tx l).cps[i]? = some l[i] := by simp [tx, hgl]
    have fin : ∀ h' : Heap, h'.IsStrIter it ty (tx l) t (i + 1) → Heap.SameBut it s.heap h' → ∃ u, some (Value.str ⟨#[l[i]]⟩ s.toks) = some u ∧
        wpAny (model X.prog X.w) X.A (letOwnedTupleGo tg (.ref it) u) (fun _ s2 => ∃ x H', Inv X pins σ H' s2 ∧ RelV x u ∧ (Itc l).yld i H x H' ∧ s2.heap.IsStrIter it ty (tx l) t (i + 1) ∧ ∀ b ∈ [it], H' b = none) E { s with heap := h', toks := s.toks + 1 } := fun h' st' sb => by
      have I1 : Inv X pins σ H { s with heap := h', toks := s.toks + 1 } := I.turned (fun b o hb e => (sb.2 b hb).trans e) f0 f1 f3 f4 f5
      obtain ⟨o, e, c, d⟩ := id st'
      have nn : ["enumerate", "zip", "dict_itemiterator", "dict_reverseitemiterator", "odict_iterator", "itertools.zip_longest", "itertools.pairwise"].contains ty = false := by
        rcases hty with rfl | rfl <;> decide
      exact ⟨_, rfl, go_of (s := { s with heap := h', toks := s.toks + 1 }) e c d nn ⟨.str (tx [l[i]]), H, I1, ⟨s.toks, rfl⟩, ⟨rfl, l[i], by simp [hgl], rfl⟩, st', fun b hb => (hf b hb).1⟩⟩
    rcases hty with rfl | rfl
    · exact wpAny_pyNext_ascii_item st hx fin
    · exact wpAny_pyNext_wide_item st hx fin
  done := by
    intro X hP hw hK hc i pins s σ H E I hf st hg
    subst hP hw hK
    obtain ⟨f0, f1, f2, f3, f4, f5⟩ := hf it (by simp)
    have hgl : l.length ≤ i := hg
    have hx : (tx l).cps[i]? = none := by simp [tx, hgl]
    rcases hty with rfl | rfl
    · exact wpAny_pyNext_ascii_end (I.ok.hd hc) st hx fun h' eb => ⟨rfl, I.turned (t' := s.toks) (fun b o hb e => eb b o hb e) f0 f1 f3 f4 f5⟩
    · exact wpAny_pyNext_wide_end (I.ok.hd hc) st hx fun h' eb => ⟨rfl, I.turned (t' := s.toks) (fun b o hb e => eb b o hb e) f0 f1 f3 f4 f5⟩
  self := fun A i s Q E st h => by
    rcases hty with rfl | rfl
    · exact wpAny_pyIter_striter_ascii st h
    · exact wpAny_pyIter_striter_wide st h
section
variable {X : Cx} {tg : Expr}
def iStr (te : TE) : TI := fun σ H R => te σ H fun x H1 => ∃ l, x = .str (tx l) ∧ R (Itc l) H1
theorem pi_str {e : Expr} {te : TE} (he : PE X e te) : PI X tg e (iStr te) := by
  intro pins s σ H R I h
  refine thn (he pins s σ H _ I h) fun v s1 ⟨x, H1, I1, r1, q1⟩ => ?_
  obtain ⟨l, rfl, q⟩ := q1
  obtain ⟨t, rfl⟩ := r1
  refine wpAny_pyIter_strU ?_
  refine ⟨s1.heap.objs.size, [s1.heap.objs.size], _, _, H1, rfl, I1.kept (t' := s1.toks) fun b o e => Heap.get?_push_of_some _ e, turn_str _ l t (strIterType (tx l)) (strIter_cases _), ⟨_, Heap.get?_push_size _ rfl, rfl, rfl⟩, fun b hb => ?_, q⟩
  have e : b = s1.heap.objs.size := by simpa using hb
  subst e
  exact I1.fpOk (Nat.le_refl _) (I1.hok.fresh (Nat.le_refl _))
end
/-- over a text's signs -/
theorem for_str {l : List Nat} {g : TG} {tb : TS} {D : Ends} {σ : St} {H : Hp} (Pv : Nat → St → Hp → Prop) (h0 : Pv 0 σ H)
    (hs : ∀ i c σ H, l[i]? = some c → Pv i σ H → g (.str (tx [c])) σ H fun σ2 H2 => tb { D with nx := Pv (i + 1), ct := Pv (i + 1), bk := D.nx } σ2 H2) (hd : ∀ σ H, Pv l.length σ H → D.nx σ H) :
    ∃ W : Nat → Nat → St → Hp → Prop, (∃ m, W 0 m σ H) ∧ ∀ i m σ H, W i m σ H →
      ((Itc l).stop i H ∧ D.nx σ H) ∨ ((Itc l).go i H ∧ ∃ N : St → Hp → Prop, (∀ σ' H', N σ' H' → ∃ m', m' < m ∧ W (i + 1) m' σ' H') ∧ ∀ x H', (Itc l).yld i H x H' → g x σ H' fun σ2 H2 => tb { D with nx := N, ct := N, bk := D.nx } σ2 H2) := by
  refine ⟨fun i m σ H => m = l.length - i ∧ i ≤ l.length ∧ Pv i σ H, ⟨l.length, by simp, Nat.zero_le _, h0⟩, ?_⟩
  rintro i m σ H ⟨rfl, hi, p⟩
  by_cases hlt : i < l.length
  · refine .inr ⟨hlt, Pv (i + 1), fun σ' H' p' => ⟨l.length - (i + 1), by omega, rfl, hlt, p'⟩, fun x H' y => ?_⟩
    obtain ⟨e, c, hc, ex⟩ := y
    subst e ex
    exact hs i c σ _ hc p
  · have e : i = l.length := by omega
    subst e
    exact .inl ⟨Nat.le_refl _, hd σ H p⟩

/-! ### records that turn, and a new object -/
section
variable {X : Cx} {pins : List (Addr × Obj)} {σ : St} {H : Hp} {s : Shared} {h' : Heap} {ch : List Addr}
theorem Inv.turnedLaid {t' : Nat} {o : HO} {a : Addr} (I : Inv X pins σ H s) (ha : s.heap.objs.size ≤ a) (k : ∀ b ob, b ∉ ch → s.heap.get? b = some ob → h'.get? b = some ob) (hf : ∀ b ∈ ch, FpOk X pins H b)
    (new : ObjOk X.prog X.w (upd H a o) h' a o) : Inv X pins σ (upd H a o) { s with heap := h', toks := t' } := by
  have hn : H a = none := I.hok.fresh ha
  have nlt : ∀ {b : Addr} {ob : Obj}, s.heap.get? b = some ob → b ≠ a := fun e => Nat.ne_of_lt (Nat.lt_of_lt_of_le (Heap.lt_size e) ha)
  have nch : ∀ b u, H b = some u → b ∉ ch := fun b u e z => by rw [(hf b z).1] at e; cases e
  refine I.step (g' := s.gens) (d' := s.drawn) (ch := ch) (fun b hb => ⟨(hf b hb).2.2.2.1, (hf b hb).2.1, (hf b hb).2.2.2.2.1, (hf b hb).2.2.2.2.2⟩) (fun b ob _ _ hc e _ => k b ob hc e) (fun b ob _ _ hc e _ => ⟨ob.slots, k b ob hc e⟩)
    (fun b ob hc e n => by rw [upd_ne (nlt e)]; exact n) (fun b ob hc e => ⟨ob, k b ob hc e⟩) (fun b xs e => by rw [upd_ne (ne_of_none e hn)]; exact e) (fun b ob u e => by rw [upd_ne (ne_of_none e hn)]; exact e)
    (fun b ps e => ⟨#[], by rw [upd_ne (ne_of_none e hn), e]; simp⟩) (fun m hm => ?_) (fun b u e => ?_) I.bare
  · obtain ⟨ob, es, ep, ho, r⟩ := hm
    exact ⟨ob, es, ep, k _ ob (fun z => (hf _ z).2.1 rfl) ho, r⟩
  · by_cases hb : b = a
    · subst hb; rw [upd_same] at e; cases e; exact new
    · rw [upd_ne hb] at e
      refine (I.hok b u e).stay (fun c v hc q => k c v ?_ q) (fun c q => by rw [upd_ne (ne_of_none q hn)]; exact q) fun c xs q => by rw [upd_ne (ne_of_none q hn)]; exact q
      rcases hc with z | z
      · rw [z]; exact nch b u e
      · exact nch c _ z
end

/-! ### enumerate of a list, taken apart at once -/
def Ite (K : PySem.W.Frag) (a : Addr) : It :=
  ⟨fun i H => ∃ xs x, SqL K H a xs ∧ xs[i]? = some x, fun i H x H' => ∃ T y, H T = none ∧ (∀ xs, SqL K H a xs → xs[i]? = some y) ∧ x = .ref T ∧ H' = upd H T (.tup [.int i, y]), fun i H => ∃ xs, SqL K H a xs ∧ xs.length ≤ i⟩
theorem turn_enum {P : Program} {w : World} {K : PySem.W.Frag} {elts : List Expr} {x1} {tp : Pos} (e it a : Addr) (hne : e ≠ it) :
    Turn P w K (.Tuple elts x1 tp) (Ite K a) [e, it] e (fun i h => (∃ old, IsEnum h e it i old) ∧ h.IsListIter it a i) where
  mem := by simp
  obj := fun i h st b hb => by
    obtain ⟨⟨old, he⟩, o, ho, hc, hd⟩ := st
    rcases List.mem_cons.mp hb with rfl | hb
    · exact ⟨_, he, fun v z => by
        have z' : Data.fields _ = Data.cell v := z
        cases z'⟩
    · have e' : b = it := by simpa using hb
      subst e'
      exact ⟨o, ho, fun v z => by rw [hd] at z; cases z⟩
  keep := fun i h h' st k => ⟨let ⟨old, he⟩ := st.1; ⟨old, k e (by simp) _ he⟩, st.2.at fun o eo => k it (by simp) o eo⟩
  item := by
    intro X hP hw hK hc i pins s σ H E I hf st hg
    subst hP hw hK
    obtain ⟨xs, x, hq, hx⟩ := hg
    obtain ⟨its, rv, p, hz⟩ := I.list hq
    obtain ⟨u, hu, ru⟩ := rv.get hx
    obtain ⟨⟨old, he⟩, hit⟩ := st
    refine wpAny_pyNext_enum_item he hit p.isList (x := u) (by simpa using hu) hne fun h1 heo hit1 hT hsz hk => ?_
    refine ⟨_, rfl, wpAny_letOwnedTupleGo_enum heo fun h2 he2 sb => ?_⟩
    have elt : e < s.heap.objs.size := Heap.lt_size he
    have hT2 : h2.get? s.heap.objs.size = some { cls := .type "tuple", data := .seq #[.int i s.toks, u] } := (sb.2 _ (Nat.ne_of_gt elt)).trans hT
    have hnT : H s.heap.objs.size = none := I.hok.fresh (Nat.le_refl _)
    refine ⟨.ref s.heap.objs.size, upd H s.heap.objs.size (.tup [.int i, x]), ?_, rfl, ⟨_, x, hnT, fun ys hy => by rw [I.list_inj hy hq]; exact hx, rfl, rfl⟩, ⟨⟨_, by simpa using he2⟩, hit1.at fun o eo => (sb.2 it hne.symm).trans eo⟩, fun b hb => ?_⟩
    · refine I.turnedLaid (ch := [e, it]) (Nat.le_refl _) (fun b ob hb eo => ?_) hf ?_
      · have h1' : b ≠ e := fun z => hb (by simp [z])
        have h2' : b ≠ it := fun z => hb (by simp [z])
        exact (sb.2 b h1').trans (hk b ob h1' h2' eo)
      · exact ⟨by show 2 ≤ sizeLine; decide, [.int i s.toks, u], .cons ⟨_, rfl⟩ (.cons ru .nil), ⟨_, hT2, rfl, _, rfl⟩⟩
    · have hb' := (hf b hb).1
      obtain ⟨o, eo, _⟩ : ∃ o, s.heap.get? b = some o ∧ True := by
        rcases List.mem_cons.mp hb with rfl | hb
        · exact ⟨_, he, trivial⟩
        · have e' : b = it := by simpa using hb
          subst e'
          obtain ⟨o, ho, _⟩ := hit
          exact ⟨o, ho, trivial⟩
      rw [upd_ne (Nat.ne_of_lt (Heap.lt_size eo))]
      exact hb'
  done := by
    intro X hP hw hK hc i pins s σ H E I hf st hg
    subst hP hw hK
    obtain ⟨xs, hq, hx⟩ := hg
    obtain ⟨its, rv, p, hz⟩ := I.list hq
    obtain ⟨⟨old, he⟩, hit⟩ := st
    obtain ⟨f0, f1, f2, f3, f4, f5⟩ := hf it (by simp)
    have hl := rv.length
    exact wpAny_pyNext_enum_end (I.ok.hd hc) he hit p.isList (by simp; omega) fun h' eb => ⟨rfl, I.turned (t' := s.toks) (fun b o hb eo => eb b o hb eo) f0 f1 f3 f4 f5⟩
  self := fun _ _ _ _ _ st h => let ⟨old, he⟩ := st.1; wpAny_pyIter_enum he h
section
variable {X : Cx}
def iEnum (K : PySem.W.Frag) (te : TA) : TI := fun σ H R => te σ H fun vs H1 => ∃ a, vs = [.ref a] ∧ (∃ xs, SqL K H1 a xs) ∧ R (Ite K a) H1
theorem pi_enum {elts : List Expr} {x1} {tp p pos : Pos} {e : Expr} {te : TA} (hg : Gl X "enumerate") (hm : X.mg "enumerate" = none) (ha : PA X [e] te) (hs : starEach [e] X.env = [(false, eval e X.env)] := by rfl) :
    PI X (.Tuple elts x1 tp) (.Call (.Name "enumerate" p) [e] [] pos) (iEnum X.K te) := by
  intro pins s σ H R I h
  refine Call_ (ld_blt I hg hm (by decide +kernel : bootBuiltins "enumerate" = some (.type "enumerate")) (PyProof.Rows.callWith_type1 (thn (ha pos pins s σ H _ I h) fun us s1 ⟨vs, H1, I1, r1, q1⟩ => ?_) hs rfl))
  obtain ⟨a, rfl, ⟨xs, hq⟩, q⟩ := q1
  obtain ⟨u, rfl, ru⟩ := vals1 r1
  cases ru
  obtain ⟨its, rv, pl, hz⟩ := I1.list hq
  refine call_enumerate_list pl.isList fun h' he hit hsz hk => ?_
  refine wpAny_pyIter_enum he ?_
  have I2 : Inv X pins σ H1 { s1 with heap := h' } := I1.kept (t' := s1.toks) hk
  refine ⟨s1.heap.objs.size + 1, [s1.heap.objs.size + 1, s1.heap.objs.size], _, _, H1, rfl, I2, turn_enum _ _ a (Nat.succ_ne_self _), ⟨⟨.none, he⟩, hit⟩, fun b hb => ?_, q⟩
  have hb' : s1.heap.objs.size ≤ b := by
    rcases List.mem_cons.mp hb with rfl | hb
    · exact Nat.le_succ _
    · have e' : b = s1.heap.objs.size := by simpa using hb
      rw [e']; exact Nat.le_refl _
  exact I1.fpOk hb' (I1.hok.fresh hb')
end

/-! ### range by steps -/
def Itr3 (lo st : Int) (n : Nat) : It := ⟨fun i _ => i < n, fun i H x H' => H' = H ∧ x = .int (lo + i * st), fun i _ => n ≤ i⟩
theorem turn_range3 {P : Program} {w : World} {K : PySem.W.Frag} {tg : Expr} (it : Addr) (lo sp : Int) (n : Nat) : Turn P w K tg (Itr3 lo sp n) [it] it (fun i h => IsRangeIter h it (lo + (i : Nat) * sp) ((n : Int) - (i : Nat)) sp) where
  mem := by simp
  obj := fun i h st b hb => by
    have e : b = it := by simpa using hb
    subst e
    exact ⟨_, st, fun v z => by
      have z' : Data.fields _ = Data.cell v := z
      cases z'⟩
  keep := fun i h h' st k => k it (by simp) _ st
  item := by
    intro X hP hw hK hc i pins s σ H E I hf st hg
    subst hP hw hK
    obtain ⟨f0, f1, f2, f3, f4, f5⟩ := hf it (by simp)
    have W := Walks.range (prog := X.prog) (w := X.w) (I.ok.hd hc) it lo sp n
    refine W.item i s _ _ hg st fun v h' tk hv st' kk => ?_
    obtain ⟨t, rfl⟩ := hv
    have I1 : Inv X pins σ H { s with heap := h', toks := tk } := I.turned (fun b o hb e => kk b o (by simpa using hb) e) f0 f1 f3 f4 f5
    exact ⟨_, rfl, go_of (s := { s with heap := h', toks := tk }) (n := "range_iterator") st' rfl rfl (by decide) ⟨.int (lo + i * sp), H, I1, ⟨t, rfl⟩, ⟨rfl, rfl⟩, st', fun b hb => (hf b hb).1⟩⟩
  done := by
    intro X hP hw hK hc i pins s σ H E I hf st hg
    subst hP hw hK
    obtain ⟨f0, f1, f2, f3, f4, f5⟩ := hf it (by simp)
    exact wpAny_pyNext_range_end (I.ok.hd hc) st (by have : n ≤ i := hg; omega) fun h' eb => ⟨rfl, I.turned (t' := s.toks) (fun b o hb e => eb b o hb e) f0 f1 f3 f4 f5⟩
  self := fun _ _ _ _ _ st h => wpAny_pyIter_rangeiter st h
section
variable {X : Cx} {tg : Expr}
def iRng3 (ta : TA) : TI := fun σ H R => ta σ H fun vs H1 => ∃ i j k : Int, ∃ n : Nat, vs = [.int i, .int j, .int k] ∧ k ≠ 0 ∧ k.natAbs < 1073741824 ∧ Builtin.Range.small i j k = true ∧ Builtin.Range.rangeSize i j k = n ∧ R (Itr3 i k n) H1
theorem pi_range3 {a b c : Expr} {ta : TA} {p pos : Pos} (hg : Gl X "range") (hm : X.mg "range" = none) (ha : PA X [a, b, c] ta)
    (hs : starEach [a, b, c] X.env = (false, eval a X.env) :: starEach [b, c] X.env := by rfl) (hpl : (backTo pos (starEach [b, c] X.env)).any (·.1) = false := by rfl) : PI X tg (.Call (.Name "range" p) [a, b, c] [] pos) (iRng3 ta) := by
  intro pins s σ H R I h
  refine Call_ (ld_blt I hg hm boot_range (PyProof.Rows.callWith_type1 (thn (ha pos pins s σ H _ I h) fun us s1 ⟨vs, H1, I1, r1, q1⟩ => ?_) hs hpl))
  obtain ⟨i, j, k, n, e, hk0, hk1, hsm, hn, q⟩ := q1
  subst e
  cases r1 with
  | cons r rr =>
    cases rr with
    | cons r' rr =>
      cases rr with
      | cons r'' rr =>
        cases rr
        obtain ⟨t, rfl⟩ := r
        obtain ⟨t', rfl⟩ := r'
        obtain ⟨t'', rfl⟩ := r''
        refine call_range_3 hk0 ?_ (.inl (PyProof.noPylong_small hk1))
        refine wpAny_pyIter_range (IsRange.new ..) hsm ?_
        have I2 : Inv X pins σ H1 { s1 with heap := s1.heap.push { cls := .type "range", data := .fields #[.int i t, .int j t', .int k t''] }, toks := s1.toks } := I1.kept fun b o e => Heap.get?_push_of_some _ e
        refine ⟨(s1.heap.push { cls := .type "range", data := .fields #[.int i t, .int j t', .int k t''] }).objs.size, [(s1.heap.push { cls := .type "range", data := .fields #[.int i t, .int j t', .int k t''] }).objs.size], _, _, H1, rfl,
          I2.kept (t' := s1.toks) fun b o e => Heap.get?_push_of_some _ e, turn_range3 _ i k n, ?_, fun b hb => ?_, q⟩
        · have e1 : i + ((0 : Nat) : Int) * k = i := by simp
          have e2 : (n : Int) - ((0 : Nat) : Int) = Builtin.Range.rangeSize i j k := by rw [hn]; simp
          show IsRangeIter _ _ (i + ((0 : Nat) : Int) * k) ((n : Int) - ((0 : Nat) : Int)) k
          rw [e1, e2]
          exact Heap.get?_push_size _ rfl
        · have e : b = (s1.heap.push { cls := .type "range", data := .fields #[.int i t, .int j t', .int k t''] }).objs.size := by simpa using hb
          subst e
          exact I2.fpOk (Nat.le_refl _) (I2.hok.fresh (Nat.le_refl _))
end
theorem for_range3 {lo sp : Int} {n : Nat} {g : TG} {tb : TS} {D : Ends} {σ : St} {H : Hp} (Pv : Nat → St → Hp → Prop) (h0 : Pv 0 σ H)
    (hs : ∀ i σ H, i < n → Pv i σ H → g (.int (lo + i * sp)) σ H fun σ2 H2 => tb { D with nx := Pv (i + 1), ct := Pv (i + 1), bk := D.nx } σ2 H2) (hd : ∀ σ H, Pv n σ H → D.nx σ H) :
    ∃ W : Nat → Nat → St → Hp → Prop, (∃ m, W 0 m σ H) ∧ ∀ i m σ H, W i m σ H →
      ((Itr3 lo sp n).stop i H ∧ D.nx σ H) ∨ ((Itr3 lo sp n).go i H ∧ ∃ N : St → Hp → Prop, (∀ σ' H', N σ' H' → ∃ m', m' < m ∧ W (i + 1) m' σ' H') ∧ ∀ x H', (Itr3 lo sp n).yld i H x H' → g x σ H' fun σ2 H2 => tb { D with nx := N, ct := N, bk := D.nx } σ2 H2) := by
  refine ⟨fun i m σ H => m = n - i ∧ i ≤ n ∧ Pv i σ H, ⟨n, by simp, Nat.zero_le _, h0⟩, ?_⟩
  rintro i m σ H ⟨rfl, hi, p⟩
  by_cases hlt : i < n
  · refine .inr ⟨hlt, Pv (i + 1), fun σ' H' p' => ⟨n - (i + 1), by omega, rfl, hlt, p'⟩, fun x H' y => ?_⟩
    obtain ⟨e, y⟩ := y
    subst e y
    exact hs i σ _ hlt p
  · have e : i = n := by omega
    subst e
    exact .inl ⟨Nat.le_refl _, hd σ H p⟩

/-! ### sum, all, isinstance, == of lists of ints -/
section
variable {X : Cx}
theorem call_sum (hc : X.calm = true) : CallR X (.builtin "sum") (fun xs H Q => ∃ (p : Addr) (ns : List Int), xs = [.ref p] ∧ SqL X.K H p (ns.map V.int) ∧ Q (.int ns.sum) H) := by
  intro pins s σ H xs us Q I r h
  obtain ⟨p, ns, rfl, hq, q⟩ := h
  obtain ⟨u, rfl, ru⟩ := vals1 r
  cases ru
  obtain ⟨its, rv, pl, hz⟩ := I.list hq
  have hi : IntsAre its ns := intsAre_of rv
  obtain ⟨xs, hx⟩ := hi.allInts.items
  have hl' : s.heap.IsList p (intItems xs) := hx ▸ pl.isList
  refine sum_intListG (I.ok.hd hc) hl' fun h' tk t' hk => ?_
  have e1 : ns = xs.toList.map (·.1) := by
    rw [← nums_intItems, ← hx]
    exact (show numsOf its.toArray.toList = ns from hi.numsOf).symm
  have e2 : preSum (numAt xs) xs.size = ns.sum := by
    rw [preSum_eq, List.take_of_length_le (by simp), e1]
  rw [e2]
  exact ⟨.int ns.sum, H, I.kept hk, ⟨_, rfl⟩, q⟩
theorem call_all (hc : X.calm = true) : CallR X (.builtin "all") (fun xs H Q => ∃ (p : Addr) (bs : List Bool), xs = [.ref p] ∧ SqL X.K H p (bs.map V.bl) ∧ Q (.bl (bs.all id)) H) := by
  intro pins s σ H xs us Q I r h
  obtain ⟨p, bs, rfl, hq, q⟩ := h
  obtain ⟨u, rfl, ru⟩ := vals1 r
  cases ru
  obtain ⟨its, rv, pl, hz⟩ := I.list hq
  have hl := pl.isList
  have hlt : p < s.heap.objs.size := by obtain ⟨_, e, _⟩ := hl; exact Heap.lt_size e
  have hlen : its.length = bs.length := by have := rv.length; rw [List.length_map] at this; exact this.symm
  have hget : ∀ i v, its[i]? = some v → ∃ b, bs[i]? = some b ∧ v = Value.bool b := fun i v hv => by
    have hi : i < bs.length := by rw [← hlen]; exact (List.getElem?_eq_some_iff.mp hv).1
    obtain ⟨u', hu', ru'⟩ := rv.get (i := i) (x := V.bl bs[i]) (by simp [hi])
    rw [hv] at hu'; cases hu'
    cases ru'
    exact ⟨bs[i], List.getElem?_eq_getElem hi, rfl⟩
  refine call_all_walk (wpAny_pyIter_list hl ?_)
  refine ⟨s.heap.objs.size, [s.heap.objs.size, p], [s.heap.objs.size], its.toArray.size, _, _, fun i => (bs[i]?).getD true, rfl, Walks.list (A := X.A.in1) (I.ok.hd hc) _ p (Nat.ne_of_lt hlt) its.toArray,
    ⟨⟨_, Heap.get?_push_size _ rfl, rfl, rfl⟩, hl.push _⟩, fun i v s' Q' E' hP hQ => ?_, fun h' tk hk => ?_⟩
  · obtain ⟨b, e, rfl⟩ := hget i v (by have z : its.toArray[i]? = some v := hP; simpa using z)
    have eb : (bs[i]?).getD true = b := by rw [e]; rfl
    have hQ' : Q' ((bs[i]?).getD true) s' := hQ
    rw [eb] at hQ'
    exact wpAny_truthy_bool hQ'
  · have e : ((List.range its.toArray.size).all fun i => (bs[i]?).getD true) = bs.all id := by
      rw [List.size_toArray, hlen]; exact PyProof.Rows.LSm.range_all bs
    rw [e]
    exact ⟨.bl (bs.all id), H, I.kept (PyProof.Rows.LSm.kept_iter hk), rfl, q⟩
def rIsi (K : PySem.W.Frag) : List V → Hp → VK → Prop := fun xs H Q => ∃ x t n b, xs = [x, .ty n] ∧ TyOf K H x t ∧ PySem.W.kitOne K t (.type n) = some b ∧ Q (.bl b) H
theorem call_isinst : CallR X (.builtin "isinstance") (rIsi X.K) := by
  intro pins s σ H xs us Q I r h
  obtain ⟨x, t, n, b, rfl, ty, e, q⟩ := h
  obtain ⟨u, u', rfl, rx, rn⟩ := vals2 r
  obtain rfl : u' = Value.type n := rn
  exact isinst_ok I rx ty e fun tk => ⟨.bl b, H, I.tok _, rfl, q⟩
def rEqL (K : PySem.W.Frag) : R2 := fun x y H Q => ∃ (a b : Addr) (ns ms : List Int), x = .ref a ∧ y = .ref b ∧ SqL K H a (ns.map V.int) ∧ SqL K H b (ms.map V.int) ∧ Q (.bl (decide (ns = ms))) H
def rNeL (K : PySem.W.Frag) : R2 := fun x y H Q => ∃ (a b : Addr) (ns ms : List Int), x = .ref a ∧ y = .ref b ∧ SqL K H a (ns.map V.int) ∧ SqL K H b (ms.map V.int) ∧ Q (.bl (!decide (ns = ms))) H
theorem op_eqL (hu : X.A.units + 64 < cLine) : OpR X (compareOp .Eq) (rEqL X.K) := by
  intro pins s σ H x y v u Q I rx ry h
  obtain ⟨a, b, ns, ms, rfl, rfl, ha, hb, q⟩ := h
  cases rx
  cases ry
  obtain ⟨is1, r1, p1, _⟩ := I.list ha
  obtain ⟨is2, r2, p2, _⟩ := I.list hb
  exact PySem.W.eq_intsK p1.isList (intsAre_of r1) p2.isList (intsAre_of r2) hu ⟨.bl _, H, I, rfl, q⟩
theorem op_neL (hu : X.A.units + 64 < cLine) : OpR X (compareOp .NotEq) (rNeL X.K) := by
  intro pins s σ H x y v u Q I rx ry h
  obtain ⟨a, b, ns, ms, rfl, rfl, ha, hb, q⟩ := h
  cases rx
  cases ry
  obtain ⟨is1, r1, p1, _⟩ := I.list ha
  obtain ⟨is2, r2, p2, _⟩ := I.list hb
  exact PySem.W.ne_intsK p1.isList (intsAre_of r1) p2.isList (intsAre_of r2) hu ⟨.bl _, H, I, rfl, q⟩
end
end L2
/-! SHORT WORDS: comprehensions whose turns keep the heap, texts written out. -/
namespace L2
open PySem PySem.Spec PyProof.Rows

theorem Same.upd {H H' : Hp} {a : Addr} {o : HO} (e : Same H H') (h : H a = none) : Same H (upd H' a o) := fun b u q => by
  rw [upd_ne (ne_of_none q h)]
  exact e b u q
theorem Same.seqT {K : PySem.W.Frag} {H H' : Hp} {a : Addr} {xs : List V} (e : Same H H') (h : SqT K H a xs) : SqT K H' a xs := by
  rcases h with (h | ⟨o, h⟩) | h
  · exact .inl (.inl (e _ _ h))
  · exact .inl (.inr ⟨o, e _ _ h⟩)
  · exact .inr h
/-- a text written out -/
theorem pe_tx {X : Cx} {x : Str} {j : Nat} {pos : Pos} {l : List Nat} (h : x = tx l := by decide +kernel) : PE X (.Constant (.str x) j pos) (tC (.str (tx l))) := by
  subst h
  exact pe_str

theorem filter_map_succ (sel : Nat → Bool) (val : Nat → V) (i : Nat) : ((List.range (i + 1)).filter sel).map val = ((List.range i).filter sel).map val ++ (if sel i = true then [val i] else []) := by
  rw [List.range_succ, List.filter_append, List.map_append]
  congr 1
  cases h : sel i <;> simp [h]
/-- a comprehension of n turns: at turn i the test is sel i, the item val i; what was tracked stays as it is -/
theorem lcb {own : List Str} {cap : List Nat} {g : TG} {tc : TT} {te : TE} {J : It} {σ : St} {H1 : Hp} {Q : VK} (n : Nat) (sel : Nat → Bool) (val : Nat → V) (hn : n ≤ sizeLine)
    (hgo : ∀ i H, i < n → Same H1 H → J.go i H) (hstop : ∀ H, Same H1 H → J.stop n H)
    (step : ∀ i H (K1 : VK) (K2 : Hp → Prop), i < n → Same H1 H → (sel i = true → ∀ H4, Same H H4 → K1 (val i) H4) → (sel i = false → ∀ H4, Same H H4 → K2 H4) → ∀ x H', J.yld i H x H' →
      g x (lcSt own cap σ) H' fun σ2 H2 => LcExt own cap σ σ2 ∧ tc σ2 H2 fun b H3 => if b = true then te σ2 H3 K1 else K2 H3)
    (fin : ∀ D H', H1 D = none → Same H1 H' → H' D = some (.lst (((List.range n).filter sel).map val)) → Q (.ref D) H') : tLcB own cap g tc te J σ H1 Q := by
  intro D hD
  refine ⟨fun i m ys H => m = n - i ∧ i ≤ n ∧ ys = ((List.range i).filter sel).map val ∧ Same H1 H ∧ H D = some (.lst ys), ⟨n, by simp, Nat.zero_le _, rfl, (Same.refl H1).upd hD, upd_same⟩, ?_⟩
  rintro i m ys H ⟨rfl, hi, rfl, hs, hd⟩
  by_cases hlt : i < n
  · refine .inr ⟨hgo i H hlt hs, fun x H' y => ?_⟩
    have hlen : (((List.range i).filter sel).map val).length < sizeLine := by
      rw [List.length_map]
      have h1 := List.length_filter_le sel (List.range i)
      rw [List.length_range] at h1
      omega
    refine step i H _ _ hlt hs (fun hsel H4 s4 => ?_) (fun hsel H4 s4 => ?_) x H' y
    · refine ⟨s4 _ _ hd, hlen, n - (i + 1), by omega, rfl, hlt, ?_, fun b o e => ?_, upd_same⟩
      · rw [filter_map_succ, if_pos hsel]
      · rw [upd_ne (ne_of_none e hD)]
        exact s4 _ _ (hs _ _ e)
    · refine ⟨n - (i + 1), by omega, rfl, hlt, ?_, hs.trans s4, s4 _ _ hd⟩
      rw [filter_map_succ, if_neg (by rw [hsel]; exact Bool.false_ne_true), List.append_nil]
  · have e : i = n := by omega
    subst e
    exact .inl ⟨hstop H hs, fin D H hD hs hd⟩
/-- .. without a test -/
theorem lcb1 {own : List Str} {cap : List Nat} {g : TG} {te : TE} {J : It} {σ : St} {H1 : Hp} {Q : VK} (n : Nat) (val : Nat → V) (hn : n ≤ sizeLine)
    (hgo : ∀ i H, i < n → Same H1 H → J.go i H) (hstop : ∀ H, Same H1 H → J.stop n H)
    (step : ∀ i H (K1 : VK), i < n → Same H1 H → (∀ H4, Same H H4 → K1 (val i) H4) → ∀ x H', J.yld i H x H' → g x (lcSt own cap σ) H' fun σ2 H2 => LcExt own cap σ σ2 ∧ te σ2 H2 K1)
    (fin : ∀ D H', H1 D = none → Same H1 H' → H' D = some (.lst ((List.range n).map val)) → Q (.ref D) H') : tLcB own cap g tYes te J σ H1 Q := by
  refine lcb n (fun _ => true) val hn hgo hstop (fun i H K1 K2 hi hs k1 k2 x H' y => ?_) (fun D H' hD hs hd => fin D H' hD hs (by rw [hd, List.filter_eq_self.mpr (fun _ _ => rfl)]))
  have e : (fun (σ2 : St) (H2 : Hp) => LcExt own cap σ σ2 ∧ tYes σ2 H2 fun b H3 => if b = true then te σ2 H3 K1 else K2 H3) = fun σ2 H2 => LcExt own cap σ σ2 ∧ te σ2 H2 K1 := by
    funext σ2 H2
    show (LcExt own cap σ σ2 ∧ if true = true then te σ2 H2 K1 else K2 H2) = _
    rw [if_pos rfl]
  rw [e]
  exact step i H K1 hi hs (k1 rfl) x H' y
theorem range_map_getD {α β : Type} (f : α → β) (d : α) (l : List α) : (List.range l.length).map (fun i => f (l.getD i d)) = l.map f := by
  apply List.ext_getElem?
  intro i
  by_cases h : i < l.length
  · simp [h]
  · simp [h]
theorem filter_true {α : Type} (l : List α) : l.filter (fun _ => true) = l := List.filter_eq_self.mpr fun _ _ => rfl
end L2
/-! zip of two lists, taken apart at once. -/
namespace L2
open PySem PySem.Spec PyProof.Rows
section
variable {X : Cx} {pins : List (Addr × Obj)} {σ : St} {H : Hp} {s : Shared} {h' : Heap} {ch : List Addr}
theorem Inv.turnedMany {t' : Nat} (I : Inv X pins σ H s) (k : ∀ b ob, b ∉ ch → s.heap.get? b = some ob → h'.get? b = some ob) (hf : ∀ b ∈ ch, FpOk X pins H b) : Inv X pins σ H { s with heap := h', toks := t' } := by
  have nch : ∀ b u, H b = some u → b ∉ ch := fun b u e z => by rw [(hf b z).1] at e; cases e
  refine I.step (g' := s.gens) (d' := s.drawn) (ch := ch) (fun b hb => ⟨(hf b hb).2.2.2.1, (hf b hb).2.1, (hf b hb).2.2.2.2.1, (hf b hb).2.2.2.2.2⟩) (fun b ob _ _ hc e _ => k b ob hc e) (fun b ob _ _ hc e _ => ⟨ob.slots, k b ob hc e⟩)
    (fun b ob hc e n => n) (fun b ob hc e => ⟨ob, k b ob hc e⟩) (fun b xs e => e) (fun b ob u e => e)
    (fun b ps e => ⟨#[], by rw [e]; simp⟩) (fun m hm => ?_) (fun b u e => ?_) I.bare
  · obtain ⟨ob, es, ep, ho, r⟩ := hm
    exact ⟨ob, es, ep, k _ ob (fun z => (hf _ z).2.1 rfl) ho, r⟩
  · refine (I.hok b u e).stay (fun c v hc q => k c v ?_ q) (fun c q => q) fun c xs q => q
    rcases hc with z | z
    · rw [z]; exact nch b u e
    · exact nch c _ z
end
def Itz (K : PySem.W.Frag) (a b : Addr) : It :=
  ⟨fun i H => ∃ xs ys x y, SqL K H a xs ∧ SqL K H b ys ∧ xs[i]? = some x ∧ ys[i]? = some y,
   fun i H v H' => ∃ T x y, H T = none ∧ (∀ xs, SqL K H a xs → xs[i]? = some x) ∧ (∀ ys, SqL K H b ys → ys[i]? = some y) ∧ v = .ref T ∧ H' = upd H T (.tup [x, y]),
   fun i H => ∃ xs ys, SqL K H a xs ∧ SqL K H b ys ∧ (xs.length ≤ i ∨ ys.length ≤ i)⟩
theorem turn_zip {P : Program} {w : World} {K : PySem.W.Frag} {elts : List Expr} {x1} {tp : Pos} (z TI TO i1 i2 a b : Addr) (D : ZipApart z TI TO i1 i2 a b) :
    Turn P w K (.Tuple elts x1 tp) (Itz K a b) [z, TI, TO, i1, i2] z (fun i h => IsZip h z TI TO .none ∧ IsPair h TI (.ref i1) (.ref i2) ∧ (∃ u v, IsPair h TO u v) ∧ h.IsListIter i1 a i ∧ h.IsListIter i2 b i) where
  mem := by simp
  obj := fun i h st c hc => by
    obtain ⟨hz, hTI, ⟨u, v, hTO⟩, ⟨o1, e1, c1, d1⟩, ⟨o2, e2, c2, d2⟩⟩ := st
    simp only [List.mem_cons, List.not_mem_nil, or_false] at hc
    rcases hc with rfl | rfl | rfl | rfl | rfl
    · exact ⟨_, hz, fun v z' => by
        have z'' : Data.fields _ = Data.cell v := z'
        cases z''⟩
    · exact ⟨_, hTI, fun v z' => by
        have z'' : Data.seq _ _ = Data.cell v := z'
        cases z''⟩
    · exact ⟨_, hTO, fun v z' => by
        have z'' : Data.seq _ _ = Data.cell v := z'
        cases z''⟩
    · exact ⟨o1, e1, fun v z' => by rw [d1] at z'; cases z'⟩
    · exact ⟨o2, e2, fun v z' => by rw [d2] at z'; cases z'⟩
  keep := fun i h h' st k => by
    obtain ⟨hz, hTI, ⟨u, v, hTO⟩, h1, h2⟩ := st
    exact ⟨k z (by simp) _ hz, k TI (by simp) _ hTI, ⟨u, v, k TO (by simp) _ hTO⟩, h1.at fun o e => k i1 (by simp) o e, h2.at fun o e => k i2 (by simp) o e⟩
  item := by
    intro X hP hw hK hc i pins s σ H E I hf st hg
    subst hP hw hK
    obtain ⟨xs, ys, x, y, hq1, hq2, hx, hy⟩ := hg
    obtain ⟨its1, rv1, p1, _⟩ := I.list hq1
    obtain ⟨its2, rv2, p2, _⟩ := I.list hq2
    obtain ⟨u1, hu1, ru1⟩ := rv1.get hx
    obtain ⟨u2, hu2, ru2⟩ := rv2.get hy
    obtain ⟨hz, hTI, ⟨u, v, hTO⟩, h1, h2⟩ := st
    refine wpAny_pyNext_zip_item D hz hTI hTO h1 h2 p1.isList p2.isList (x := u1) (y := u2) (by simpa using hu1) (by simpa using hu2) fun h3 a1 a2 a3 a4 a5 a6 hk => ?_
    refine ⟨_, rfl, wpAny_letOwnedTupleGo_zip (s := ⟨h3, s.gens, s.drawn, s.toks, s.os⟩) a1 fun h4 b1 sb => ?_⟩
    have zlt : z < s.heap.objs.size := Heap.lt_size hz
    have hT : IsPair h4 s.heap.objs.size u1 u2 := (sb.2 _ (Nat.ne_of_gt zlt)).trans a5
    have hnT : H s.heap.objs.size = none := I.hok.fresh (Nat.le_refl _)
    have kk : ∀ c o, c ∉ [z, TI, TO, i1, i2] → s.heap.get? c = some o → h4.get? c = some o := fun c o hc' e => by
      simp only [List.mem_cons, List.not_mem_nil, or_false, not_or] at hc'
      exact (sb.2 c hc'.1).trans (hk c o hc'.1 hc'.2.2.1 hc'.2.2.2.1 hc'.2.2.2.2 e)
    refine ⟨.ref s.heap.objs.size, upd H s.heap.objs.size (.tup [x, y]), ?_, rfl, ⟨_, x, y, hnT, fun zs hy' => by rw [I.list_inj hy' hq1]; exact hx, fun zs hy' => by rw [I.list_inj hy' hq2]; exact hy, rfl, rfl⟩,
      ⟨b1, (sb.2 _ D.TIz).trans (hk _ _ D.TIz D.TITO D.TIi1 D.TIi2 hTI), ⟨_, _, (sb.2 _ D.TOz).trans a2⟩, a3.at fun o e => (sb.2 _ D.i1z).trans e, a4.at fun o e => (sb.2 _ D.i2z).trans e⟩, fun c hc' => ?_⟩
    · refine I.turnedLaid (ch := [z, TI, TO, i1, i2]) (Nat.le_refl _) kk hf ?_
      exact ⟨by show 2 ≤ sizeLine; decide, [u1, u2], .cons ru1 (.cons ru2 .nil), ⟨_, hT, rfl, _, rfl⟩⟩
    · have lt : c < s.heap.objs.size := by
        simp only [List.mem_cons, List.not_mem_nil, or_false] at hc'
        rcases hc' with rfl | rfl | rfl | rfl | rfl
        · exact zlt
        · exact Heap.lt_size hTI
        · exact Heap.lt_size hTO
        · obtain ⟨_, e, _⟩ := h1; exact Heap.lt_size e
        · obtain ⟨_, e, _⟩ := h2; exact Heap.lt_size e
      rw [upd_ne (Nat.ne_of_lt lt)]
      exact (hf c hc').1
  done := by
    intro X hP hw hK hc i pins s σ H E I hf st hg
    subst hP hw hK
    obtain ⟨xs, ys, hq1, hq2, hend⟩ := hg
    obtain ⟨its1, rv1, p1, _⟩ := I.list hq1
    obtain ⟨its2, rv2, p2, _⟩ := I.list hq2
    have l1 := rv1.length
    have l2 := rv2.length
    obtain ⟨hz, hTI, ⟨u, v, hTO⟩, h1, h2⟩ := st
    refine wpAny_pyNext_zip_end (I.ok.hd hc) D hz hTI hTO h1 h2 p1.isList p2.isList (hend.imp (fun e => by simp; omega) fun e => by simp; omega) fun h' hk => ⟨rfl, I.turnedMany (ch := [z, TI, TO, i1, i2]) (fun c o hc' e => ?_) hf⟩
    simp only [List.mem_cons, List.not_mem_nil, or_false, not_or] at hc'
    exact hk c o hc'.1 hc'.2.2.1 hc'.2.2.2.1 hc'.2.2.2.2 e
  self := fun _ _ _ _ _ st h => wpAny_pyIter_zip st.1 h
section
variable {X : Cx}
def iZip (K : PySem.W.Frag) (te : TA) : TI := fun σ H R => te σ H fun vs H1 => ∃ a b, vs = [.ref a, .ref b] ∧ (∃ xs, SqL K H1 a xs) ∧ (∃ ys, SqL K H1 b ys) ∧ R (Itz K a b) H1
theorem pi_zip {elts : List Expr} {x1} {tp p pos : Pos} {e f : Expr} {te : TA} (hg : Gl X "zip") (hm : X.mg "zip" = none) (ha : PA X [e, f] te) (hs : starEach [e, f] X.env = [(false, eval e X.env), (false, eval f X.env)] := by rfl) (hs2 : starEach [f] X.env = [(false, eval f X.env)] := by rfl) :
    PI X (.Tuple elts x1 tp) (.Call (.Name "zip" p) [e, f] [] pos) (iZip X.K te) := by
  intro pins s σ H R I h
  refine Call_ (ld_blt I hg hm (by decide +kernel : bootBuiltins "zip" = some (.type "zip")) (PyProof.Rows.callWith_type1 (thn (ha pos pins s σ H _ I h) fun us s1 ⟨vs, H1, I1, r1, q1⟩ => ?_) (by rw [hs, hs2]) (by rw [hs2]; rfl)))
  obtain ⟨a, b, rfl, ⟨xs, hq1⟩, ⟨ys, hq2⟩, q⟩ := q1
  cases r1 with
  | cons ru r2 =>
    obtain ⟨u2, rfl, ru2⟩ := vals1 r2
    cases ru
    cases ru2
    obtain ⟨its1, rv1, p1, _⟩ := I1.list hq1
    obtain ⟨its2, rv2, p2, _⟩ := I1.list hq2
    obtain ⟨o1, e1, _⟩ := p1.isList
    obtain ⟨o2, e2, _⟩ := p2.isList
    refine call_zip_2 p1.isList p2.isList fun h' hz hTI hTO hit1 hit2 hsz hk => ?_
    refine wpAny_pyIter_zip (s := ⟨h', s1.gens, s1.drawn, s1.toks, s1.os⟩) hz ?_
    have I2 : Inv X pins σ H1 { s1 with heap := h' } := I1.kept (t' := s1.toks) hk
    refine ⟨_, _, _, _, H1, rfl, I2, turn_zip _ _ _ _ _ a b (zipApart_new (Heap.lt_size e1) (Heap.lt_size e2)), ⟨hz, hTI, ⟨_, _, hTO⟩, hit1, hit2⟩, fun c hc => ?_, q⟩
    have hb' : s1.heap.objs.size ≤ c := by
      simp only [List.mem_cons, List.not_mem_nil, or_false] at hc
      rcases hc with rfl | rfl | rfl | rfl | rfl
      · exact Nat.le_add_right _ _
      · exact Nat.le_add_right _ _
      · exact Nat.le_add_right _ _
      · exact Nat.le_refl _
      · exact Nat.le_add_right _ _
    exact I1.fpOk hb' (I1.hok.fresh hb')
theorem for_zip {K : PySem.W.Frag} {a b : Addr} {xs ys : List V} {g : TG} {tb : TS} {D : Ends} {σ : St} {H : Hp} (Pv : Nat → St → Hp → Prop) (h0 : Pv 0 σ H) (hl : ∀ i σ H, Pv i σ H → SqL K H a xs ∧ SqL K H b ys) (he : xs.length = ys.length)
    (hs : ∀ i x y T σ H, xs[i]? = some x → ys[i]? = some y → Pv i σ H → H T = none → g (.ref T) σ (upd H T (.tup [x, y])) fun σ2 H2 => tb { D with nx := Pv (i + 1), ct := Pv (i + 1), bk := D.nx } σ2 H2) (hd : ∀ σ H, Pv xs.length σ H → D.nx σ H) :
    ∃ W : Nat → Nat → St → Hp → Prop, (∃ m, W 0 m σ H) ∧ ∀ i m σ H, W i m σ H →
      ((Itz K a b).stop i H ∧ D.nx σ H) ∨ ((Itz K a b).go i H ∧ ∃ N : St → Hp → Prop, (∀ σ' H', N σ' H' → ∃ m', m' < m ∧ W (i + 1) m' σ' H') ∧ ∀ x H', (Itz K a b).yld i H x H' → g x σ H' fun σ2 H2 => tb { D with nx := N, ct := N, bk := D.nx } σ2 H2) := by
  refine ⟨fun i m σ H => m = xs.length - i ∧ i ≤ xs.length ∧ Pv i σ H, ⟨xs.length, by simp, Nat.zero_le _, h0⟩, ?_⟩
  rintro i m σ H ⟨rfl, hi, p⟩
  obtain ⟨q1, q2⟩ := hl i σ H p
  by_cases hlt : i < xs.length
  · have ex : xs[i]? = some xs[i] := List.getElem?_eq_getElem hlt
    have ey : ys[i]? = some (ys[i]'(by omega)) := List.getElem?_eq_getElem _
    refine .inr ⟨⟨xs, ys, _, _, q1, q2, ex, ey⟩, Pv (i + 1), fun σ' H' p' => ⟨xs.length - (i + 1), by omega, rfl, hlt, p'⟩, fun v H' y => ?_⟩
    obtain ⟨T, x, y, hT, hx, hy, rfl, rfl⟩ := y
    exact hs i x y T σ H (hx _ q1) (hy _ q2) p hT
  · have e : i = xs.length := by omega
    subst e
    exact .inl ⟨⟨xs, ys, q1, q2, .inl (Nat.le_refl _)⟩, hd σ H p⟩
end
end L2
/-! a in b of texts, find, is True, slices by steps. -/
namespace L2
open PySem PySem.Spec PyProof.Rows PySem.StrLaws
theorem at_iff (a b : List Nat) (i : Nat) : At (tx b) (tx a) (tx b).length i ↔ i + a.length ≤ b.length ∧ (b.drop i).take a.length = a := by
  unfold At
  rw [subAt_eq, tx_len, tx_len]
  show _ ∧ (((b.drop i).take a.length == a) = true) ↔ _
  rw [beq_iff_eq]
theorem infix_at (a b : List Nat) : a <:+: b ↔ ∃ i, i + a.length ≤ b.length ∧ (b.drop i).take a.length = a := by
  constructor
  · rintro ⟨u, v, rfl⟩
    refine ⟨u.length, by simp, ?_⟩
    rw [List.append_assoc, List.drop_left, List.take_left]
  · rintro ⟨i, hi, e⟩
    refine ⟨b.take i, (b.drop i).drop a.length, ?_⟩
    have h1 : a ++ (b.drop i).drop a.length = b.drop i := by
      have := List.take_append_drop a.length (b.drop i)
      rw [e] at this
      exact this
    rw [List.append_assoc, h1, List.take_append_drop]
theorem in_inf (a b : List Nat) : (!(Builtin.Str.occurrences (tx b) (tx a) 0 (tx b).length 1).isEmpty) = decide (a <:+: b) := by
  rw [Bool.eq_iff_iff, found_iff, decide_eq_true_eq, infix_at]
  exact ⟨fun ⟨i, h⟩ => ⟨i, (at_iff a b i).mp h⟩, fun ⟨i, h⟩ => ⟨i, (at_iff a b i).mpr h⟩⟩
section
variable {X : Cx}
theorem op_in_tx : OpR X (compareOp .In) (fun x y H Q => ∃ a b, x = .str (tx a) ∧ y = .str (tx b) ∧ Q (.bl (decide (a <:+: b))) H) := by
  intro pins s σ H x y v u Q I rx ry h
  obtain ⟨a, b, rfl, rfl, q⟩ := h
  exact op_in_str pins s σ H _ _ v u Q I rx ry ⟨_, _, rfl, rfl, by rw [in_inf]; exact q⟩
theorem op_notin_tx : OpR X (compareOp .NotIn) (fun x y H Q => ∃ a b, x = .str (tx a) ∧ y = .str (tx b) ∧ Q (.bl (!decide (a <:+: b))) H) := by
  intro pins s σ H x y v u Q I rx ry h
  obtain ⟨a, b, rfl, rfl, q⟩ := h
  exact op_notin_str pins s σ H _ _ v u Q I rx ry ⟨_, _, rfl, rfl, by rw [in_inf]; exact q⟩
/-- is True, is not True .. of bools -/
theorem op_is_bl : OpR X (compareOp .Is) (fun x y H Q => ∃ a b, x = .bl a ∧ y = .bl b ∧ Q (.bl (a == b)) H) := by
  intro pins s σ H x y v u Q I rx ry h
  obtain ⟨a, b, rfl, rfl, q⟩ := h
  cases rx
  cases ry
  refine wpAny_is_plain (by cases a <;> cases b <;> rfl) (fin_bl I q ?_)
  cases a <;> cases b <;> rfl
theorem op_isnot_bl : OpR X (compareOp .IsNot) (fun x y H Q => ∃ a b, x = .bl a ∧ y = .bl b ∧ Q (.bl (!(a == b))) H) := by
  intro pins s σ H x y v u Q I rx ry h
  obtain ⟨a, b, rfl, rfl, q⟩ := h
  cases rx
  cases ry
  refine wpAny_isNot_plain (by cases a <;> cases b <;> rfl) (fin_bl I q ?_)
  cases a <;> cases b <;> rfl
/-- where it stands first -/
def findL (b a : List Nat) : Int := Txt.find (tx b) (tx a)
theorem findL_eq {a b : List Nat} {i : Nat} (h : i + a.length ≤ b.length ∧ (b.drop i).take a.length = a) (hm : ∀ k, k < i → ¬ (k + a.length ≤ b.length ∧ (b.drop k).take a.length = a)) : findL b a = i := by
  unfold findL Txt.find
  rcases occ_head (tx b) (tx a) 1 (Nat.le_refl _) with ⟨_, hn⟩ | ⟨j, r, e, hj, hk⟩
  · exact absurd ((at_iff a b i).mpr h) (hn i)
  · rw [e]
    have hj' := (at_iff a b j).mp hj
    have : j = i := by
      rcases Nat.lt_trichotomy j i with z | z | z
      · exact absurd hj' (hm j z)
      · exact z
      · exact absurd ((at_iff a b i).mpr h) (hk i z)
    rw [this]
theorem findL_at {a b : List Nat} {i : Nat} (h : findL b a = i) : (i + a.length ≤ b.length ∧ (b.drop i).take a.length = a) ∧ ∀ k, k < i → ¬ (k + a.length ≤ b.length ∧ (b.drop k).take a.length = a) := by
  unfold findL Txt.find at h
  rcases occ_head (tx b) (tx a) 1 (Nat.le_refl _) with ⟨e, hn⟩ | ⟨j, r, e, hj, hk⟩
  · rw [e] at h
    have h' : (-1 : Int) = (i : Int) := h
    omega
  · rw [e] at h
    have h' : (j : Int) = (i : Int) := h
    have : j = i := by omega
    subst this
    exact ⟨(at_iff a b j).mp hj, fun k hk' z => hk k hk' ((at_iff a b k).mpr z)⟩
def rFind : V → List V → Hp → VK → Prop := fun x vs H Q => ∃ a b, x = .str (tx a) ∧ vs = [.str (tx b)] ∧ Q (.int (findL a b)) H
theorem mt_find : MtR X "str.find" rFind := by
  intro pins s σ H x vs v us Q I rx rv h
  obtain ⟨a, b, rfl, rfl, q⟩ := h
  obtain ⟨t, rfl⟩ := rx
  obtain ⟨u, rfl, t', rfl⟩ := vals1 rv
  exact PySem.SC.find ⟨.int _, H, I.tok _, ⟨_, rfl⟩, q⟩
end
/-! ### by steps -/
def pickBy {α : Type} (xs : List α) (lo hi : Option Int) (st : Int) : List α := (Builtin.Str.strSliceIndices lo hi st xs.length).filterMap (xs[·]?)
theorem pickBy_map {α β : Type} (f : α → β) (xs : List α) (lo hi : Option Int) (st : Int) : pickBy (xs.map f) lo hi st = (pickBy xs lo hi st).map f := by
  unfold pickBy
  rw [List.length_map, List.map_filterMap]
  congr 1
  funext i
  rw [List.getElem?_map]
theorem pickBy_mem {α : Type} {xs : List α} {lo hi : Option Int} {st : Int} {x : α} (h : x ∈ pickBy xs lo hi st) : x ∈ xs := by
  unfold pickBy at h
  obtain ⟨i, _, e⟩ := List.mem_filterMap.mp h
  exact List.mem_of_getElem? e
theorem slicePick_by (items : Array Value) (lo hi : Option Int) (st : Int) : slicePick items lo hi (some st) = (pickBy items.toList lo hi st).toArray := by
  unfold slicePick pickBy
  rw [Array.length_toList]
  congr 1
  have e : (fun x => items.toList[x]?) = fun x => items[x]? := funext fun i => Array.getElem?_toList
  rw [e]
  rfl
theorem pickBy_len {α : Type} (xs : List α) (lo hi : Option Int) (st : Int) : (pickBy xs lo hi st).length ≤ xs.length := by
  have e := slicePick_size_le (xs.map fun _ => Value.none).toArray lo hi (some st)
  rw [slicePick_by, List.size_toArray, List.size_toArray, List.length_map, pickBy_map, List.length_map] at e
  exact e
theorem pickBy_rev {α : Type} (xs : List α) : pickBy xs none none (-1) = xs.reverse := by
  have e : Builtin.Str.strSliceIndices none none (-1) xs.length = (List.range xs.length).map fun k => xs.length - 1 - k := by
    unfold Builtin.Str.strSliceIndices sliceRange
    simp only [show ¬ ((-1 : Int) > 0) by decide, if_false]
    have c : (if ((xs.length : Int) - 1 > -1) then ((xs.length : Int) - 1 - -1 - -1 - 1) / (- -1) else 0).toNat = xs.length := by
      split
      · rw [show (- -1 : Int) = 1 from rfl, Int.ediv_one]; omega
      · omega
    rw [c]
    refine List.map_congr_left fun k hk => ?_
    have := List.mem_range.mp hk
    omega
  unfold pickBy
  rw [e, List.filterMap_map]
  apply List.ext_getElem?
  intro i
  have fm : ∀ n, n ≤ xs.length → List.filterMap ((fun x => xs[x]?) ∘ fun k => xs.length - 1 - k) (List.range n) = xs.reverse.take n := by
    intro n
    induction n with
    | zero => intro _; simp
    | succ n ih =>
      intro hn
      rw [List.range_succ, List.filterMap_append, ih (by omega), List.take_add_one, List.getElem?_reverse (by omega)]
      congr 1
  rw [fm _ (Nat.le_refl _), List.take_of_length_le (by simp)]
section
variable {X : Cx}
def SlS (X : Cx) (r : V → Option Int → Option Int → Int → Hp → VK → Prop) : Prop :=
  ∀ (pins : List (Addr × Obj)) (s : Shared) (σ : St) (H : Hp) (x : V) (v vl vu vs : Value) (lo hi : Option Int) (st : Int) (sl : Addr) (Q : VK), Inv X pins σ H s → RelV x v → s.heap.IsSliceOf sl vl vu vs → IsPart vl lo → IsPart vu hi → IsPart vs (some st) → r x lo hi st H Q →
    ∃ T id, typeLookup (.type T) "__getitem__" = pure (some (.builtin id)) ∧ s.TypeIs v T ∧ wpAny (model X.prog X.w) X.A (getItem v (.ref sl)) (EP X pins σ Q) X.xe s
def tSlS (r : V → Option Int → Option Int → Int → Hp → VK → Prop) (te : TE) (tl th ts : TO) : TE := fun σ H Q => te σ H fun x H1 => tl σ H1 fun lo H2 => th σ H2 fun hi H3 => ts σ H3 fun st H4 => ∃ k, st = some k ∧ r x lo hi k H4 Q
theorem pe_sliceS {e : Expr} {te : TE} {lo hi : Option Expr} {sp : Expr} {tl th ts : TO} {p2 pos : Pos} {r : V → Option Int → Option Int → Int → Hp → VK → Prop} (hr : SlS X r) (he : PE X e te) (hl : PO X lo tl) (hu : PO X hi th) (hs : PO X (some sp) ts) : PE X (.Subscript e (.Slice lo hi (some sp) p2) pos) (tSlS r te tl th ts) := by
  intro pins s σ H Q I h
  refine Subscript_ (thn (he pins s σ H _ I h) fun v s1 ⟨x, H1, I1, r1, q1⟩ => ?_)
  refine wpAny_Slice (thn (hl pins s1 σ H1 _ I1 q1) fun vl s2 ⟨l, H2, I2, pl, q2⟩ => thn (hu pins s2 σ H2 _ I2 q2) fun vu s3 ⟨u, H3, I3, pu, q3⟩ => thn (hs pins s3 σ H3 _ I3 q3) fun vs s4 ⟨st, H4, I4, ps, k, ek, q4⟩ => ?_)
  subst ek
  have I5 : Inv X pins σ H4 { s4 with heap := s4.heap.push { cls := .type "slice", data := .fields #[vl, vu, vs] } } := I4.kept (t' := s4.toks) fun b ob q => Heap.get?_push_of_some _ q
  obtain ⟨T, id, hT, ht, hg⟩ := hr pins { s4 with heap := s4.heap.push { cls := .type "slice", data := .fields #[vl, vu, vs] } } σ H4 x v vl vu vs l u k s4.heap.objs.size Q I5 r1 (Heap.IsSliceOf.new ..) pl pu ps q4
  show wpAny (model X.prog X.w) X.A (subscriptTail e (.Slice lo hi (some sp) p2) v (.ref s4.heap.objs.size)) (EP X pins σ Q) X.xe { s4 with heap := s4.heap.push { cls := .type "slice", data := .fields #[vl, vu, vs] } }
  exact tail_any (ops := [v, .ref s4.heap.objs.size]) ht hT hg (by with_unfolding_all rfl)
theorem vals_pick {xs : List V} {us : List Value} (r : Vals xs us) (is : List Nat) : Vals (is.filterMap (xs[·]?)) (is.filterMap (us[·]?)) := by
  induction is with
  | nil => exact .nil
  | cons i is ih =>
    rw [List.filterMap_cons, List.filterMap_cons]
    cases hx : xs[i]? with
    | none =>
      have hu : us[i]? = none := List.getElem?_eq_none (by rw [← r.length]; exact List.getElem?_eq_none_iff.mp hx)
      rw [hu]; exact ih
    | some x =>
      obtain ⟨u, hu, ru⟩ := r.get hx
      rw [hu]; exact .cons ru ih
/-- xs[lo:hi:st] -/
def rSlsL (K : PySem.W.Frag) : V → Option Int → Option Int → Int → Hp → VK → Prop := fun x lo hi st H Q => ∃ a xs, x = .ref a ∧ SqL K H a xs ∧ st ≠ 0 ∧ ∀ p, H p = none → Q (.ref p) (upd H p (.lst (pickBy xs lo hi st)))
theorem sls_list : SlS X (rSlsL X.K) := by
  intro pins s σ H x v vl vu vs lo hi st sl Q I rx hs pl pu ps h
  obtain ⟨a, xs, rfl, hx, h0, q⟩ := h
  cases rx
  obtain ⟨its, r, ht, hz⟩ := I.list hx
  have hlen := r.length
  refine ⟨"list", _, slot_list_getitem.lookup, ht.isList.typeIs, ?_⟩
  refine wpAny_getItem_list_slice ht.isList hs pl pu ps (by intro z; injection z with z; exact h0 z) ?_ (by rw [List.size_toArray] <;> omega)
  rw [slicePick_by]
  refine ⟨.ref s.heap.objs.size, _, I.laid (t' := s.toks) (o := .lst (pickBy xs lo hi st)) (fun b ob q => Heap.get?_push_of_some _ q) (Nat.le_refl _) ?_, rfl, q _ (I.hok.fresh (Nat.le_refl _))⟩
  refine ⟨Nat.le_trans (pickBy_len xs lo hi st) hz, pickBy its lo hi st, 0, ?_, Heap.get?_push_size _ rfl⟩
  unfold pickBy
  rw [hlen]
  exact vals_pick r _
/-- a text by steps other than 1 -/
def rSlsS : V → Option Int → Option Int → Int → Hp → VK → Prop := fun x lo hi st H Q => ∃ l, x = .str (tx l) ∧ l.length ≤ sizeLine ∧ st ≠ 0 ∧ st ≠ 1 ∧ Q (.str (tx (pickBy l lo hi st))) H
theorem sls_str : SlS X rSlsS := by
  intro pins s σ H x v vl vu vs lo hi st sl Q I rx hs pl pu ps h
  obtain ⟨l, rfl, hz, h0, h1, q⟩ := h
  obtain ⟨t, rfl⟩ := rx
  obtain ⟨ql, rfl, el⟩ := isPart_of pl
  obtain ⟨qu, rfl, eu⟩ := isPart_of pu
  obtain ⟨qs, rfl, es⟩ := isPart_of ps
  refine ⟨"str", _, slot_str_getitem.lookup, typeIs_str s (tx l) t, ?_⟩
  obtain ⟨o, ho, hc, hd⟩ := hs
  have gs : (qs.map (·.1)).getD 1 = st := by rw [es]; rfl
  refine wpAny_getItem_str_slice (l := ql) (u := qu) (st := qs) ⟨o, ho, hc, hd⟩ (by rw [gs]; simpa using h0) ?_
  have pk : slicePicked (tx l) ql qu qs = Builtin.Str.strSliceIndices lo hi st (tx l).length := by
    unfold slicePicked
    rw [el, eu, gs]
  unfold sliceMade
  rw [pk, gs, if_neg (by simp [h1]), tx_len]
  have e2 : (Builtin.Str.strSliceIndices lo hi st l.length).filterMap ((tx l).cps[·]?) = pickBy l lo hi st := by
    unfold pickBy
    congr 1
    funext i
    rw [← Array.getElem?_toList, tx_toList]
  rw [e2]
  refine ⟨?_, ?_⟩
  · show (tx (pickBy l lo hi st)).length ≤ sizeLine
    rw [tx_len]
    exact Nat.le_trans (pickBy_len l lo hi st) hz
  · exact ⟨.str (tx (pickBy l lo hi st)), H, I.tok _, ⟨_, rfl⟩, q⟩
end
end L2
/-! WALKS: enumerate of a text; the statement for over enumerate. -/
namespace L2
open PySem PySem.Spec PyProof.Rows
def IteS (l : List Nat) : It :=
  ⟨fun i _ => i < l.length, fun i H x H' => ∃ T c, H T = none ∧ l[i]? = some c ∧ x = .ref T ∧ H' = upd H T (.tup [.int i, .str (tx [c])]), fun i _ => l.length ≤ i⟩
theorem draws_str {prog : Program} {w : World} {A : Around} (hh : A.handled = none) (it : Addr) (x : Str) (t : Tok) (ty : String) (hty : ty = "str_ascii_iterator" ∨ ty = "str_iterator") :
    Draws prog w A it [it] x.cps.size (fun i v => ∃ c u, x.cps[i]? = some c ∧ v = .str ⟨#[c]⟩ u) (fun i h => h.IsStrIter it ty x t i) := by
  rcases hty with rfl | rfl
  · exact Draws.strAscii hh it x t
  · exact Draws.strWide hh it x t
theorem turn_enumS {P : Program} {w : World} {K : PySem.W.Frag} {elts : List Expr} {x1} {tp : Pos} (e it : Addr) (l : List Nat) (t : Tok) (ty : String) (hty : ty = "str_ascii_iterator" ∨ ty = "str_iterator") (hne : e ≠ it) :
    Turn P w K (.Tuple elts x1 tp) (IteS l) [e, it] e (fun i h => (∃ old, IsEnum h e it i old) ∧ h.IsStrIter it ty (tx l) t i) where
  mem := by simp
  obj := fun i h st b hb => by
    obtain ⟨⟨old, he⟩, o, ho, hc, hd⟩ := st
    rcases List.mem_cons.mp hb with rfl | hb
    · exact ⟨_, he, fun v z => by
        have z' : Data.fields _ = Data.cell v := z
        cases z'⟩
    · have e' : b = it := by simpa using hb
      subst e'
      exact ⟨o, ho, fun v z => by rw [hd] at z; cases z⟩
  keep := fun i h h' st k => ⟨let ⟨old, he⟩ := st.1; ⟨old, k e (by simp) _ he⟩, let ⟨o, eo, r⟩ := st.2; ⟨o, k it (by simp) o eo, r⟩⟩
  item := by
    intro X hP hw hK hc i pins s σ H E I hf st hg
    subst hP hw hK
    obtain ⟨⟨old, he⟩, hit⟩ := st
    have hgl : i < l.length := hg
    have hh : X.A.in1.handled = none := I.ok.hd hc
    refine wpAny_pyNext_enum_itemD (draws_str hh it (tx l) t ty hty) he hit (by rw [tx_size]; exact hgl) hne (by simpa using hne) fun x h1 tk hx heo hit1 hT hsz hk => ?_
    obtain ⟨c, u, hc', rfl⟩ := hx
    have hlc : l[i]? = some c := by
      rw [← hc']
      simp [tx]
    refine ⟨_, rfl, wpAny_letOwnedTupleGo_enum heo fun h2 he2 sb => ?_⟩
    have elt : e < s.heap.objs.size := Heap.lt_size he
    have hT2 : h2.get? s.heap.objs.size = some { cls := .type "tuple", data := .seq #[.int i tk, .str ⟨#[c]⟩ u] } := (sb.2 _ (Nat.ne_of_gt elt)).trans hT
    have hnT : H s.heap.objs.size = none := I.hok.fresh (Nat.le_refl _)
    refine ⟨.ref s.heap.objs.size, upd H s.heap.objs.size (.tup [.int i, .str (tx [c])]), ?_, rfl, ⟨_, c, hnT, hlc, rfl, rfl⟩, ⟨⟨_, by simpa using he2⟩, ?_⟩, fun b hb => ?_⟩
    · refine I.turnedLaid (ch := [e, it]) (Nat.le_refl _) (fun b ob hb eo => ?_) hf ?_
      · have h1' : b ≠ e := fun z => hb (by simp [z])
        have h2' : b ≠ it := fun z => hb (by simp [z])
        exact (sb.2 b h1').trans (hk b ob h1' h2' eo)
      · exact ⟨by show 2 ≤ sizeLine; decide, [.int i tk, .str ⟨#[c]⟩ u], .cons ⟨_, rfl⟩ (.cons ⟨u, rfl⟩ .nil), ⟨_, hT2, rfl, _, rfl⟩⟩
    · obtain ⟨o, eo, r⟩ := hit1
      exact ⟨o, (sb.2 it hne.symm).trans eo, r⟩
    · have hb' := (hf b hb).1
      obtain ⟨o, eo, _⟩ : ∃ o, s.heap.get? b = some o ∧ True := by
        rcases List.mem_cons.mp hb with rfl | hb
        · exact ⟨_, he, trivial⟩
        · have e' : b = it := by simpa using hb
          subst e'
          obtain ⟨o, ho, _⟩ := hit
          exact ⟨o, ho, trivial⟩
      rw [upd_ne (Nat.ne_of_lt (Heap.lt_size eo))]
      exact hb'
  done := by
    intro X hP hw hK hc i pins s σ H E I hf st hg
    subst hP hw hK
    obtain ⟨⟨old, he⟩, hit⟩ := st
    have hgl : l.length ≤ i := hg
    have hh : X.A.in1.handled = none := I.ok.hd hc
    obtain ⟨f0, f1, f2, f3, f4, f5⟩ := hf it (by simp)
    have hT : s.TypeIs (.ref e) "enumerate" := ⟨_, he, rfl⟩
    have hx : (tx l).cps[i]? = none := by simp [tx, hgl]
    unfold pyNext
    refine wpAny_bind (wpAny_attempt (wpAny_callSpecial?_slot (name := Str.ofString "__next__") hT F.slot_enumerate_next
      (wpAny_call_entry F.slot_enumerate_next hT F.entry_enumerate_next ?_ (F.args_enumerate_next_1 _))))
    show wpAny _ _ (field (.ref e) 2 >>= _) _ _ _
    refine wpAny_bind (wpAny_field he rfl (x := .ref it) rfl ?_)
    rcases hty with rfl | rfl
    · refine wpAny_bind (wpAny_nextOf_ascii_end hh hit hx fun h' x he' hx' => ?_)
      obtain ⟨o, ho, hc⟩ := hx'
      exact wpAny_bind (wpAny_isInstance (T := "StopIteration") (b := true) ⟨o, ho, hc⟩ isSubtype_stop (wpAny_pure ⟨rfl, I.turned (t' := s.toks) (fun b o hb eo => he' b o hb eo) f0 f1 f3 f4 f5⟩))
    · refine wpAny_bind (wpAny_nextOf_wide_end hh hit hx fun h' x he' hx' => ?_)
      obtain ⟨o, ho, hc⟩ := hx'
      exact wpAny_bind (wpAny_isInstance (T := "StopIteration") (b := true) ⟨o, ho, hc⟩ isSubtype_stop (wpAny_pure ⟨rfl, I.turned (t' := s.toks) (fun b o hb eo => he' b o hb eo) f0 f1 f3 f4 f5⟩))
  self := fun _ _ _ _ _ st h => let ⟨old, he⟩ := st.1; wpAny_pyIter_enum he h
section
variable {X : Cx}
def iEnumS (te : TA) : TI := fun σ H R => te σ H fun vs H1 => ∃ l, vs = [.str (tx l)] ∧ R (IteS l) H1
theorem pi_enumS {elts : List Expr} {x1} {tp p pos : Pos} {e : Expr} {te : TA} (hg : Gl X "enumerate") (hm : X.mg "enumerate" = none) (ha : PA X [e] te) (hs : starEach [e] X.env = [(false, eval e X.env)] := by rfl) :
    PI X (.Tuple elts x1 tp) (.Call (.Name "enumerate" p) [e] [] pos) (iEnumS te) := by
  intro pins s σ H R I h
  refine Call_ (ld_blt I hg hm (by decide +kernel : bootBuiltins "enumerate" = some (.type "enumerate")) (PyProof.Rows.callWith_type1 (thn (ha pos pins s σ H _ I h) fun us s1 ⟨vs, H1, I1, r1, q1⟩ => ?_) hs rfl))
  obtain ⟨l, rfl, q⟩ := q1
  obtain ⟨u, rfl, ru⟩ := vals1 r1
  obtain ⟨t, rfl⟩ := ru
  refine call_enumerate_str fun h' he hit hsz hk => ?_
  refine wpAny_pyIter_enum he ?_
  have I2 : Inv X pins σ H1 { s1 with heap := h' } := I1.kept (t' := s1.toks) hk
  refine ⟨s1.heap.objs.size + 1, [s1.heap.objs.size + 1, s1.heap.objs.size], _, _, H1, rfl, I2, turn_enumS _ _ l t (strIterType (tx l)) (strIter_cases _) (Nat.succ_ne_self _), ⟨⟨.none, he⟩, hit⟩, fun b hb => ?_, q⟩
  have hb' : s1.heap.objs.size ≤ b := by
    rcases List.mem_cons.mp hb with rfl | hb
    · exact Nat.le_succ _
    · have e' : b = s1.heap.objs.size := by simpa using hb
      rw [e']; exact Nat.le_refl _
  exact I1.fpOk hb' (I1.hok.fresh hb')
end
/-- for i, c in enumerate(text) -/
theorem for_enumS {l : List Nat} {g : TG} {tb : TS} {D : Ends} {σ : St} {H : Hp} (Pv : Nat → St → Hp → Prop) (h0 : Pv 0 σ H)
    (hs : ∀ i c T σ H, l[i]? = some c → H T = none → Pv i σ H → g (.ref T) σ (upd H T (.tup [.int i, .str (tx [c])])) fun σ2 H2 => tb { D with nx := Pv (i + 1), ct := Pv (i + 1), bk := D.nx } σ2 H2) (hd : ∀ σ H, Pv l.length σ H → D.nx σ H) :
    ∃ W : Nat → Nat → St → Hp → Prop, (∃ m, W 0 m σ H) ∧ ∀ i m σ H, W i m σ H →
      ((IteS l).stop i H ∧ D.nx σ H) ∨ ((IteS l).go i H ∧ ∃ N : St → Hp → Prop, (∀ σ' H', N σ' H' → ∃ m', m' < m ∧ W (i + 1) m' σ' H') ∧ ∀ x H', (IteS l).yld i H x H' → g x σ H' fun σ2 H2 => tb { D with nx := N, ct := N, bk := D.nx } σ2 H2) := by
  refine ⟨fun i m σ H => m = l.length - i ∧ i ≤ l.length ∧ Pv i σ H, ⟨l.length, by simp, Nat.zero_le _, h0⟩, ?_⟩
  rintro i m σ H ⟨rfl, hi, p⟩
  by_cases hlt : i < l.length
  · refine .inr ⟨hlt, Pv (i + 1), fun σ' H' p' => ⟨l.length - (i + 1), by omega, rfl, hlt, p'⟩, fun x H' y => ?_⟩
    obtain ⟨T, c, hT, hc, ex, e⟩ := y
    subst e ex
    exact hs i c T σ _ hc hT p
  · have e : i = l.length := by omega
    subst e
    exact .inl ⟨Nat.le_refl _, hd σ H p⟩
/-- for i, x in enumerate(list) -/
theorem for_enum {K : PySem.W.Frag} {a : Addr} {xs : List V} {g : TG} {tb : TS} {D : Ends} {σ : St} {H : Hp} (Pv : Nat → St → Hp → Prop) (h0 : Pv 0 σ H) (hl : ∀ i σ H, Pv i σ H → SqL K H a xs)
    (hs : ∀ i y T σ H, xs[i]? = some y → H T = none → Pv i σ H → g (.ref T) σ (upd H T (.tup [.int i, y])) fun σ2 H2 => tb { D with nx := Pv (i + 1), ct := Pv (i + 1), bk := D.nx } σ2 H2) (hd : ∀ σ H, Pv xs.length σ H → D.nx σ H) :
    ∃ W : Nat → Nat → St → Hp → Prop, (∃ m, W 0 m σ H) ∧ ∀ i m σ H, W i m σ H →
      ((Ite K a).stop i H ∧ D.nx σ H) ∨ ((Ite K a).go i H ∧ ∃ N : St → Hp → Prop, (∀ σ' H', N σ' H' → ∃ m', m' < m ∧ W (i + 1) m' σ' H') ∧ ∀ x H', (Ite K a).yld i H x H' → g x σ H' fun σ2 H2 => tb { D with nx := N, ct := N, bk := D.nx } σ2 H2) := by
  refine ⟨fun i m σ H => m = xs.length - i ∧ i ≤ xs.length ∧ Pv i σ H, ⟨xs.length, by simp, Nat.zero_le _, h0⟩, ?_⟩
  rintro i m σ H ⟨rfl, hi, p⟩
  by_cases hlt : i < xs.length
  · refine .inr ⟨⟨xs, xs[i], hl i σ H p, List.getElem?_eq_getElem hlt⟩, Pv (i + 1), fun σ' H' p' => ⟨xs.length - (i + 1), by omega, rfl, hlt, p'⟩, fun x H' y => ?_⟩
    obtain ⟨T, y, hT, hy, ex, e⟩ := y
    subst e ex
    exact hs i y T σ _ (hy xs (hl i σ H p)) hT p
  · have e : i = xs.length := by omega
    subst e
    exact .inl ⟨⟨xs, hl _ σ H p, Nat.le_refl _⟩, hd σ H p⟩
end L2
namespace L2
open PySem PySem.Spec PyProof.Rows
section
variable {X : Cx}
theorem call_ord_tx : CallR X (.builtin "ord") (fun xs H Q => ∃ c : Nat, xs = [.str (tx [c])] ∧ Q (.int (c : Int)) H) := by
  intro pins s σ H xs us Q I rv h
  obtain ⟨c, rfl, q⟩ := h
  exact call_ord pins s σ H _ us Q I rv ⟨tx [c], rfl, rfl, q⟩
end
theorem ixN_nat {n k : Nat} (h : k < n) : ixN n (k : Int) = some k := by
  unfold ixN
  rw [if_pos (by omega)]
  simp [h]
end L2
/-! isinstance with own classes -/
namespace L2
open PySem PySem.Spec PyProof.Rows

/-- a class as a value -/
def clV : V → Option Value
  | .ty n => some (.type n)
  | .ref a => some (.ref a)
  | _ => none
theorem clV_rel {y : V} {u c : Value} (r : RelV y u) (h : clV y = some c) : u = c := by
  cases y <;> simp only [clV, Option.some.injEq, reduceCtorEq] at h
  · cases h; exact r
  · cases h; exact r
def rIsiC (K : PySem.W.Frag) : List V → Hp → VK → Prop := fun xs H Q => ∃ x y t c b, xs = [x, y] ∧ clV y = some c ∧ TyOf K H x t ∧ PySem.W.kitOne K t c = some b ∧ Q (.bl b) H
section
variable {X : Cx}
theorem call_isinstC : CallR X (.builtin "isinstance") (rIsiC X.K) := by
  intro pins s σ H xs us Q I r h
  obtain ⟨x, y, t, c, b, rfl, hc, ty, e, q⟩ := h
  obtain ⟨u, u', rfl, rx, ry⟩ := vals2 r
  obtain rfl := clV_rel ry hc
  exact isinst_ok I rx ty e fun tk => ⟨.bl b, H, I.tok _, rfl, q⟩
end
end L2
/-! own classes and their instances, as isinstance asks of them -/
namespace L2
open PySem PySem.Spec PyProof.Rows
theorem kit_of {K : PySem.W.Frag} {C D : Addr} {b : Bool} (h1 : PySem.W.isClsIn K D = true) (h2 : PySem.W.typeIn K (.ref D) = some (.type "type")) (h3 : PySem.W.subIn K (.ref C) (.ref D) = some b) (h4 : b = true ∨ C ≠ D) : PySem.W.kitOne K (.ref C) (.ref D) = some b := by
  unfold PySem.W.kitOne
  by_cases e : (Value.ref C == Value.ref D) = true
  · rw [if_pos e]
    rcases h4 with rfl | h4
    · rfl
    · have := beq_iff_eq.mp e
      injection this with z
      exact absurd z h4
  · rw [if_neg e]
    show (if ((PySem.W.clsIn K D).isSome && PySem.W.typeIn K (.ref D) == some (.type "type")) = true then PySem.W.subIn K (.ref C) (.ref D) else none) = some b
    rw [if_pos (by rw [h2]; unfold PySem.W.isClsIn at h1; rw [h1]; rfl)]
    exact h3
/-- what isinstance asks of a class -/
structure InsK (K : PySem.W.Frag) (C : Addr) : Prop where
  cl : Cls K C
  find : PySem.W.findIn K (.ref C) "__class__" = some (some (.builtin "object.__class__"))
  spec : PySem.W.specialIn K (.builtin "object.__class__") "__get__" = some (some (.builtin "getset_descriptor.__get__"))
  takes : PySem.W.takesIn K (.builtin "object.__class__") = some true
  mro : PySem.W.mroIn K C (.type "object") = some true
theorem InsK.ty {K : PySem.W.Frag} {H : Hp} {a C dx : Addr} {fs : List (Str × V)} (Z : InsK K C) (e : H a = some (.ins C dx fs)) : TyOf K H (.ref a) (.ref C) := .ins e Z.cl Z.find Z.spec Z.takes Z.mro
end L2
/-! Lists of any length sorted: the gallop. -/
namespace L2S
set_option autoImplicit false
open PySem PyProof.Rows

/-- what one comparison says -/
def bey (κ : KeyKind) (left : Bool) (k : κ.α) (arr : Array Keyed) (base i : Nat) : Bool := if left then κ.blt (KK κ arr (base + i)) k else !κ.blt k (KK κ arr (base + i))
def beyond' (left : Bool) (key : Keyed) (arr : Array Keyed) (base i : Nat) : StateT SortSt Sem (Option Bool) := do
  let z ← elem' arr (base + i)
  if left then lt' z key else return (← lt' key z).map (!·)
def gallop' : Bool → Keyed → Array Keyed → Nat → Nat → Nat → StateT SortSt Sem (Option Nat) := sortPriv% PySem.Builtin.gallop
theorem gallop'_eq (left : Bool) (key : Keyed) (arr : Array Keyed) (base n hint : Nat) : gallop' left key arr base n hint = (do
  let mut la := 0
  let mut oo := 1
  let mut l0 := 0
  let mut h0 := 0
  let some rt ← beyond' left key arr base hint | return none
  if rt then
    let mx := n - hint
    for _ in [0:n] do
      if oo ≥ mx then break
      let some mo ← beyond' left key arr base (hint + oo) | return none
      if !mo then break
      la := oo
      oo := 2 * oo + 1
    l0 := hint + la + 1
    h0 := hint + min oo mx
  else
    let mx := hint + 1
    for _ in [0:n] do
      if oo ≥ mx then break
      let some fd ← beyond' left key arr base (hint - oo) | return none
      if fd then break
      la := oo
      oo := 2 * oo + 1
    l0 := hint + 1 - min oo mx
    h0 := hint - la
  for _ in [0:n] do
    if l0 ≥ h0 then break
    let mi := l0 + (h0 - l0) / 2
    let some mo ← beyond' left key arr base mi | return none
    if mo then l0 := mi + 1 else h0 := mi
  return some h0) := rfl

section
variable {prog : Program} {w : World} {A : Around} {E : Value → Shared → Prop} {s : Shared} {κ : KeyKind}
theorem keysAt {xs : Array Keyed} (h : KeysOf κ xs) {i : Nat} (hi : i < xs.size) : ∃ p, xs[i]? = some p ∧ κ.keyOf p.1 = some (KK κ xs i) := by
  have e : xs[i]? = some xs[i] := getElem?_pos xs i hi
  obtain ⟨a, ha⟩ := h xs[i] (by simp)
  refine ⟨xs[i], e, ?_⟩
  unfold KK
  rw [e]
  simp [ha]
theorem wpS_elem {st : SortSt} {xs : Array Keyed} {i : Nat} {p : Keyed} {Q : Keyed → SortSt → Prop} (h : xs[i]? = some p) (q : Q p st) : wpS (model prog w) A E s (elem' xs i) Q st := by
  rw [elem'_eq, h]
  exact wpS_pure q
theorem wpS_lt2 (hO : κ.OneLt) {st : SortSt} (hk : kindOf st = oneType') {x y : Keyed} {a b : κ.α} {Q : Option Bool → SortSt → Prop} (ha : κ.keyOf x.1 = some a) (hb : κ.keyOf y.1 = some b) (h : Q (some (κ.blt a b)) st) :
    wpS (model prog w) A E s (lt' x y) Q st := by
  rw [lt'_eq]
  refine wpS_bind (wpS_get ?_)
  rw [hk, keyLt'_oneType]
  exact wpS_bind (wpS_lift (wpAny_attempt (hO prog w A _ s x.1 y.1 a b ha hb ⟨rfl, wpS_pure h⟩)))
theorem wpS_beyond (hO : κ.OneLt) {st : SortSt} (hk : kindOf st = oneType') {left : Bool} {key : Keyed} {k : κ.α} (hkey : κ.keyOf key.1 = some k) {arr : Array Keyed} (hA : KeysOf κ arr) {base i : Nat} (hi : base + i < arr.size)
    {Q : Option Bool → SortSt → Prop} (h : Q (some (bey κ left k arr base i)) st) : wpS (model prog w) A E s (beyond' left key arr base i) Q st := by
  unfold beyond'
  obtain ⟨p, e, hp⟩ := keysAt hA hi
  refine wpS_bind (wpS_elem e ?_)
  unfold bey at h
  cases left with
  | true => exact wpS_lt2 hO hk hp hkey h
  | false => exact wpS_bind (wpS_lt2 hO hk hkey hp (wpS_pure h))
/-- yes first, then no -/
def Mono (κ : KeyKind) (left : Bool) (k : κ.α) (arr : Array Keyed) (base n : Nat) : Prop := ∀ i j, i ≤ j → j < n → bey κ left k arr base j = true → bey κ left k arr base i = true
theorem wpS_gallop (hO : κ.OneLt) {st : SortSt} (hk : kindOf st = oneType') {left : Bool} {key : Keyed} {k : κ.α} (hkey : κ.keyOf key.1 = some k) {arr : Array Keyed} (hA : KeysOf κ arr) {base n hint : Nat} (hn : base + n ≤ arr.size) (hh : hint < n)
    (hm : Mono κ left k arr base n) {Q : Option Nat → SortSt → Prop}
    (h : ∀ r, r ≤ n → (∀ i, i < r → bey κ left k arr base i = true) → (∀ i, r ≤ i → i < n → bey κ left k arr base i = false) → Q (some r) st) :
    wpS (model prog w) A E s (gallop' left key arr base n hint) Q st := by
  have up : ∀ i, i < n → bey κ left k arr base i = true → ∀ j, j ≤ i → bey κ left k arr base j = true := fun i hi hb j hj => hm j i hj hi hb
  have dn : ∀ i, i < n → bey κ left k arr base i = false → ∀ j, i ≤ j → j < n → bey κ left k arr base j = false := fun i hi hb j hj hjn => by
    cases e : bey κ left k arr base j with
    | false => rfl
    | true => rw [hm i j hj hjn e] at hb; cases hb
  have fin : ∀ (f : Nat → Option (Option Nat) × Nat × Nat → StateT SortSt Sem (ForInStep (Option (Option Nat) × Nat × Nat))) (g : Option (Option Nat) × Nat × Nat → StateT SortSt Sem (Option Nat)) (l0 h0 : Nat), l0 ≤ h0 → h0 ≤ n →
      (∀ i, i < l0 → bey κ left k arr base i = true) → (∀ i, h0 ≤ i → i < n → bey κ left k arr base i = false) →
      (∀ x l r (Q' : ForInStep (Option (Option Nat) × Nat × Nat) → SortSt → Prop), l ≥ r → Q' (.done (none, l, r)) st → wpS (model prog w) A E s (f x (none, l, r)) Q' st) →
      (∀ x l r (Q' : ForInStep (Option (Option Nat) × Nat × Nat) → SortSt → Prop), l < r → r ≤ n → (bey κ left k arr base (l + (r - l) / 2) = true → Q' (.yield (none, l + (r - l) / 2 + 1, r)) st) →
        (bey κ left k arr base (l + (r - l) / 2) = false → Q' (.yield (none, l, l + (r - l) / 2)) st) → wpS (model prog w) A E s (f x (none, l, r)) Q' st) →
      (∀ l r, Q (some r) st → wpS (model prog w) A E s (g (none, l, r)) Q st) → wpS (model prog w) A E s (forIn [0:n] (none, l0, h0) f >>= g) Q st := by
    intro f g l0 h0 hlh hhn hlo hhi hf1 hf2 hg
    refine wpS_bind (wpS_mono (wpS_forRange (I := fun x c st' => st' = st ∧ ∃ l r, c = (none, l, r) ∧ l ≤ r ∧ r ≤ n ∧ r - l ≤ n - x ∧ (∀ i, i < l → bey κ left k arr base i = true) ∧ (∀ i, r ≤ i → i < n → bey κ left k arr base i = false))
      (Q := fun c st' => st' = st ∧ ∃ l r, c = (none, l, r) ∧ l = r ∧ r ≤ n ∧ (∀ i, i < l → bey κ left k arr base i = true) ∧ (∀ i, r ≤ i → i < n → bey κ left k arr base i = false)) ?st ?en ⟨rfl, l0, h0, rfl, hlh, hhn, by omega, hlo, hhi⟩) ?po)
    case en =>
      rintro c st' ⟨rfl, l, r, rfl, h1, h2, h3, h4, h5⟩
      exact ⟨rfl, l, r, rfl, by omega, h2, h4, h5⟩
    case po =>
      rintro c st' ⟨rfl, l, r, rfl, h1, h2, h4, h5⟩
      subst h1
      exact hg l l (h l h2 h4 h5)
    case st =>
      rintro x c st' _ hx ⟨rfl, l, r, rfl, h1, h2, h3, h4, h5⟩
      by_cases hge : l ≥ r
      · exact hf1 x l r _ hge ⟨rfl, l, r, rfl, by omega, h2, h4, h5⟩
      · exact hf2 x l r _ (by omega) h2 (fun e => ⟨rfl, _, r, rfl, by omega, h2, by omega, fun i hi => up _ (by omega) e i (by omega), h5⟩)
          fun e => ⟨rfl, l, _, rfl, by omega, by omega, by omega, h4, fun i hi hin => dn _ (by omega) e i hi hin⟩
  rw [gallop'_eq]
  refine wpS_bind (wpS_beyond hO hk hkey hA (by omega) ?_)
  dsimp only
  cases e : bey κ left k arr base hint with
  | true =>
    rw [if_pos rfl]
    refine wpS_bind (wpS_mono (wpS_forRange (I := fun x c st' => st' = st ∧ ∃ la oo, c = (none, la, oo) ∧ la < oo ∧ hint + la < n ∧ x + 1 ≤ oo ∧ bey κ left k arr base (hint + la) = true)
      (Q := fun c st' => st' = st ∧ ∃ la oo, c = (none, la, oo) ∧ la < oo ∧ hint + la < n ∧ bey κ left k arr base (hint + la) = true ∧ (n - hint ≤ oo ∨ bey κ left k arr base (hint + oo) = false)) ?st ?en ⟨rfl, 0, 1, rfl, by omega, by omega, by omega, e⟩) ?po)
    case en =>
      rintro c st' ⟨rfl, la, oo, rfl, h1, h2, h3, h4⟩
      exact ⟨rfl, la, oo, rfl, h1, h2, h4, .inl (by omega)⟩
    case st =>
      rintro x c st' _ hx ⟨rfl, la, oo, rfl, h1, h2, h3, h4⟩
      dsimp only
      by_cases hge : oo ≥ n - hint
      · rw [if_pos hge]
        exact wpS_pure ⟨rfl, la, oo, rfl, h1, h2, h4, .inl hge⟩
      · rw [if_neg hge]
        refine wpS_bind (wpS_beyond hO hk hkey hA (by omega) ?_)
        cases e2 : bey κ left k arr base (hint + oo) with
        | true => exact wpS_pure ⟨rfl, oo, 2 * oo + 1, rfl, by omega, by omega, by omega, e2⟩
        | false => exact wpS_pure ⟨rfl, la, oo, rfl, h1, h2, h4, .inr e2⟩
    case po =>
      rintro c st' ⟨rfl, la, oo, rfl, h1, h2, h4, h5⟩
      dsimp only
      refine fin _ _ (hint + la + 1) (hint + min oo (n - hint)) (by omega) (by omega) (fun i hi => up _ h2 h4 i (by omega)) (fun i hi hin => ?_) (fun x l r Q' hge q => by
          dsimp only
          rw [if_pos hge]
          exact wpS_pure q) (fun x l r Q' hlt hrn q1 q2 => by
          dsimp only
          rw [if_neg (by omega)]
          refine wpS_bind (wpS_beyond hO hk hkey hA (by omega) ?_)
          cases e3 : bey κ left k arr base (l + (r - l) / 2) with
          | true => exact wpS_pure (q1 e3)
          | false => exact wpS_pure (q2 e3)) fun l r q => wpS_pure q
      rcases h5 with z | z
      · omega
      · exact dn (hint + oo) (by omega) z i (by omega) hin
  | false =>
    rw [if_neg (by decide)]
    refine wpS_bind (wpS_mono (wpS_forRange (I := fun x c st' => st' = st ∧ ∃ la oo, c = (none, la, oo) ∧ la < oo ∧ la ≤ hint ∧ x + 1 ≤ oo ∧ bey κ left k arr base (hint - la) = false)
      (Q := fun c st' => st' = st ∧ ∃ la oo, c = (none, la, oo) ∧ la < oo ∧ la ≤ hint ∧ bey κ left k arr base (hint - la) = false ∧ (hint + 1 ≤ oo ∨ bey κ left k arr base (hint - oo) = true)) ?st ?en ⟨rfl, 0, 1, rfl, by omega, by omega, by omega, e⟩) ?po)
    case en =>
      rintro c st' ⟨rfl, la, oo, rfl, h1, h2, h3, h4⟩
      exact ⟨rfl, la, oo, rfl, h1, h2, h4, .inl (by omega)⟩
    case st =>
      rintro x c st' _ hx ⟨rfl, la, oo, rfl, h1, h2, h3, h4⟩
      dsimp only
      by_cases hge : oo ≥ hint + 1
      · rw [if_pos hge]
        exact wpS_pure ⟨rfl, la, oo, rfl, h1, h2, h4, .inl hge⟩
      · rw [if_neg hge]
        refine wpS_bind (wpS_beyond hO hk hkey hA (by omega) ?_)
        cases e2 : bey κ left k arr base (hint - oo) with
        | true => exact wpS_pure ⟨rfl, la, oo, rfl, h1, h2, h4, .inr e2⟩
        | false => exact wpS_pure ⟨rfl, oo, 2 * oo + 1, rfl, by omega, by omega, by omega, e2⟩
    case po =>
      rintro c st' ⟨rfl, la, oo, rfl, h1, h2, h4, h5⟩
      dsimp only
      refine fin _ _ (hint + 1 - min oo (hint + 1)) (hint - la) (by omega) (by omega) (fun i hi => ?_) (fun i hi hin => dn (hint - la) (by omega) h4 i hi hin) (fun x l r Q' hge q => by
          dsimp only
          rw [if_pos hge]
          exact wpS_pure q) (fun x l r Q' hlt hrn q1 q2 => by
          dsimp only
          rw [if_neg (by omega)]
          refine wpS_bind (wpS_beyond hO hk hkey hA (by omega) ?_)
          cases e3 : bey κ left k arr base (l + (r - l) / 2) with
          | true => exact wpS_pure (q1 e3)
          | false => exact wpS_pure (q2 e3)) fun l r q => wpS_pure q
      rcases h5 with z | z
      · omega
      · exact up (hint - oo) (by omega) z i (by omega)
end
end L2S
/-! Lists of any length sorted: the merges. -/
namespace L2S
set_option autoImplicit false
open PySem PyProof.Rows

def mergeLo' : Array Keyed → Array Keyed → StateT SortSt Sem (Array Keyed) := sortPriv% PySem.Builtin.mergeLo
def setGal (g : Nat) : StateT SortSt Sem Unit := modify fun z => SortSt.mk' (kindOf z) (arrOf z) (pendingOf z) g (failedOf z)
def outA (a b o : Array Keyed) (i j : Nat) : Array Keyed := o ++ a.extract i a.size ++ b.extract j b.size
def outB (a b o : Array Keyed) (i j : Nat) : Array Keyed := o ++ b.extract j b.size ++ a.extract i a.size
theorem mergeLo'_eq (a b : Array Keyed) : mergeLo' a b = (do
  rule "list.sort.merge-lo"
  let tt := a.size + b.size
  let mut o : Array Keyed := #[← elem' b 0]
  let mut i := 0
  let mut j := 1
  if j == b.size then return outA a b o i j
  if i + 1 == a.size then return outB a b o i j
  let mut mg := gallopOf (← get)
  for _ in [0:tt] do
    let mut ca := 0
    let mut cb := 0
    for _ in [0:tt] do
      let some bw ← lt' (← elem' b j) (← elem' a i) | return outA a b o i j
      if bw then
        o := o.push (← elem' b j); j := j + 1; cb := cb + 1; ca := 0
        if j == b.size then return outA a b o i j
        if cb ≥ mg then break
      else
        o := o.push (← elem' a i); i := i + 1; ca := ca + 1; cb := 0
        if i + 1 == a.size then return outB a b o i j
        if ca ≥ mg then break
    rule "list.sort.gallop"
    mg := mg + 1
    for _ in [0:tt] do
      if mg > 1 then mg := mg - 1
      setGal mg
      let some k ← gallop' false (← elem' b j) a i (a.size - i) 0 | return outA a b o i j
      ca := k
      if k > 0 then
        o := o ++ a.extract i (i + k); i := i + k
        if i + 1 == a.size then return outB a b o i j
        if i == a.size then return outA a b o i j
      o := o.push (← elem' b j); j := j + 1
      if j == b.size then return outA a b o i j
      let some k ← gallop' true (← elem' a i) b j (b.size - j) 0 | return outA a b o i j
      cb := k
      if k > 0 then
        o := o ++ b.extract j (j + k); j := j + k
        if j == b.size then return outA a b o i j
      o := o.push (← elem' a i); i := i + 1
      if i + 1 == a.size then return outB a b o i j
      if ca < 7 && cb < 7 then break
    mg := mg + 1
    setGal mg
  unsupported "internal:list.sort.merge-bound") := rfl

/-! ### by lists -/
def kf (κ : KeyKind) (p : Keyed) : κ.α := (κ.keyOf p.1).getD κ.dflt
def Le (κ : KeyKind) (p q : Keyed) : Prop := κ.kle (kf κ p) (kf κ q)
def Srt (κ : KeyKind) (l : List Keyed) : Prop := l.Pairwise (Le κ)
structure Mg (κ : KeyKind) (a b : List Keyed) (i j : Nat) (o : List Keyed) : Prop where
  perm : o.Perm (a.take i ++ b.take j)
  srt : Srt κ o
  lea : ∀ x ∈ o, ∀ y ∈ a.drop i, Le κ x y
  leb : ∀ x ∈ o, ∀ y ∈ b.drop j, Le κ x y
theorem mem_drop_of {l : List Keyed} {i k : Nat} {y : Keyed} (h : y ∈ l.drop (i + k)) : y ∈ l.drop i := by
  rw [← List.drop_drop] at h
  exact List.mem_of_mem_drop h
theorem Srt.drop {κ : KeyKind} {l : List Keyed} (h : Srt κ l) (i : Nat) : Srt κ (l.drop i) := h.sublist (List.drop_sublist i l)
theorem Srt.part {κ : KeyKind} {l : List Keyed} (h : Srt κ l) (i k : Nat) : ∀ x ∈ (l.drop i).take k, ∀ y ∈ l.drop (i + k), Le κ x y := by
  have e : l.drop i = (l.drop i).take k ++ l.drop (i + k) := by rw [← List.drop_drop, List.take_append_drop]
  have h2 := h.drop i
  rw [e] at h2
  exact (List.pairwise_append.mp h2).2.2
theorem Mg.swap {κ : KeyKind} {a b : List Keyed} {i j : Nat} {o : List Keyed} (m : Mg κ a b i j o) : Mg κ b a j i o := ⟨m.perm.trans List.perm_append_comm, m.srt, m.leb, m.lea⟩
theorem Mg.takeA {κ : KeyKind} {a b : List Keyed} {i j : Nat} {o : List Keyed} (m : Mg κ a b i j o) (hs : Srt κ a) (k : Nat) (h : ∀ y ∈ (a.drop i).take k, ∀ z ∈ b.drop j, Le κ y z) : Mg κ a b (i + k) j (o ++ (a.drop i).take k) where
  perm := by
    have e : a.take (i + k) = a.take i ++ (a.drop i).take k := List.take_add
    rw [e]
    refine (m.perm.append_right _).trans ?_
    rw [List.append_assoc, List.append_assoc]
    exact List.Perm.append_left _ List.perm_append_comm
  srt := List.pairwise_append.mpr ⟨m.srt, (hs.drop i).sublist (List.take_sublist k _), fun x hx y hy => m.lea x hx y (List.mem_of_mem_take hy)⟩
  lea := fun x hx y hy => by
    rcases List.mem_append.mp hx with z | z
    · exact m.lea x z y (mem_drop_of hy)
    · exact hs.part i k x z y hy
  leb := fun x hx y hy => by
    rcases List.mem_append.mp hx with z | z
    · exact m.leb x z y hy
    · exact h x z y hy
theorem Mg.takeB {κ : KeyKind} {a b : List Keyed} {i j : Nat} {o : List Keyed} (m : Mg κ a b i j o) (hs : Srt κ b) (k : Nat) (h : ∀ y ∈ (b.drop j).take k, ∀ z ∈ a.drop i, Le κ y z) : Mg κ a b i (j + k) (o ++ (b.drop j).take k) :=
  (m.swap.takeA hs k h).swap
theorem Mg.endA {κ : KeyKind} {a b : List Keyed} {i j : Nat} {o : List Keyed} (m : Mg κ a b i j o) (ha : Srt κ a) (hb : Srt κ b) (h : ∀ y ∈ a.drop i, ∀ z ∈ b.drop j, Le κ y z) : Srt κ (o ++ a.drop i ++ b.drop j) ∧ (o ++ a.drop i ++ b.drop j).Perm (a ++ b) := by
  refine ⟨List.pairwise_append.mpr ⟨List.pairwise_append.mpr ⟨m.srt, ha.drop i, m.lea⟩, hb.drop j, fun x hx y hy => ?_⟩, ?_⟩
  · rcases List.mem_append.mp hx with z | z
    · exact m.leb x z y hy
    · exact h x z y hy
  · have e1 : a = a.take i ++ a.drop i := (List.take_append_drop i a).symm
    have e2 : b = b.take j ++ b.drop j := (List.take_append_drop j b).symm
    refine (((m.perm.append_right (a.drop i)).append_right (b.drop j))).trans ?_
    have e3 : a ++ b = (a.take i ++ a.drop i) ++ (b.take j ++ b.drop j) := by rw [← e1, ← e2]
    rw [e3]
    simp only [List.append_assoc]
    refine List.Perm.append_left _ ?_
    rw [← List.append_assoc, ← List.append_assoc]
    exact List.Perm.append_right _ List.perm_append_comm
theorem Mg.endB {κ : KeyKind} {a b : List Keyed} {i j : Nat} {o : List Keyed} (m : Mg κ a b i j o) (ha : Srt κ a) (hb : Srt κ b) (h : ∀ y ∈ b.drop j, ∀ z ∈ a.drop i, Le κ y z) : Srt κ (o ++ b.drop j ++ a.drop i) ∧ (o ++ b.drop j ++ a.drop i).Perm (a ++ b) := by
  obtain ⟨h1, h2⟩ := m.swap.endA hb ha h
  exact ⟨h1, h2.trans List.perm_append_comm⟩
theorem dropCons {a : Array Keyed} {i : Nat} {p : Keyed} (h : a[i]? = some p) : a.toList.drop i = p :: a.toList.drop (i + 1) := by
  obtain ⟨hi, e⟩ := Array.getElem?_eq_some_iff.mp h
  rw [List.drop_eq_getElem_cons (by simpa using hi)]
  congr 1
theorem dropTake {a : Array Keyed} {i : Nat} {p : Keyed} (h : a[i]? = some p) : (a.toList.drop i).take 1 = [p] := by rw [dropCons h]; rfl
theorem mem_drop_at {a : Array Keyed} {i : Nat} {y : Keyed} (h : y ∈ a.toList.drop i) : ∃ j, i ≤ j ∧ j < a.size ∧ a[j]? = some y := by
  obtain ⟨n, hn, e⟩ := List.getElem_of_mem h
  rw [List.length_drop] at hn
  have hs : a.toList.length = a.size := rfl
  refine ⟨i + n, by omega, by omega, ?_⟩
  rw [List.getElem_drop] at e
  rw [Array.getElem?_eq_some_iff]
  exact ⟨by omega, by simpa using e⟩
theorem mem_part_at {a : Array Keyed} {i k : Nat} {y : Keyed} (h : y ∈ (a.toList.drop i).take k) : ∃ j, i ≤ j ∧ j < i + k ∧ j < a.size ∧ a[j]? = some y := by
  obtain ⟨n, hn, e⟩ := List.getElem_of_mem h
  rw [List.length_take, List.length_drop] at hn
  have hs : a.toList.length = a.size := rfl
  refine ⟨i + n, by omega, by omega, by omega, ?_⟩
  rw [List.getElem_take, List.getElem_drop] at e
  rw [Array.getElem?_eq_some_iff]
  exact ⟨by omega, by simpa using e⟩
theorem kf_at {κ : KeyKind} {a : Array Keyed} {i : Nat} {p : Keyed} (h : a[i]? = some p) : KK κ a i = kf κ p := by
  unfold KK kf
  rw [h]
theorem Srt.at {κ : KeyKind} {a : Array Keyed} (h : Srt κ a.toList) {i j : Nat} (hij : i ≤ j) (hj : j < a.size) : κ.kle (KK κ a i) (KK κ a j) := by
  by_cases e : i = j
  · subst e; exact KeyOrd.kle_refl _
  · have hp := List.pairwise_iff_getElem.mp h i j (by simp; omega) (by simpa using hj) (by omega)
    rw [kf_at (i := i) (p := a[i]) (by simp [show i < a.size by omega]), kf_at (i := j) (p := a[j]) (by simp [hj])]
    exact hp
theorem ext_toList (a : Array Keyed) (i k : Nat) (h : i + k ≤ a.size) : (a.extract i (i + k)).toList = (a.toList.drop i).take k := by
  rw [Array.toList_extract, List.extract]
  congr 1
  omega
theorem ext_all (a : Array Keyed) (i : Nat) : (a.extract i a.size).toList = a.toList.drop i := by
  rw [Array.toList_extract, List.extract, List.take_of_length_le (by rw [List.length_drop]; simp)]
theorem outA_list (a b o : Array Keyed) (i j : Nat) : (outA a b o i j).toList = o.toList ++ a.toList.drop i ++ b.toList.drop j := by
  unfold outA
  rw [Array.toList_append, Array.toList_append, ext_all, ext_all]
theorem outB_list (a b o : Array Keyed) (i j : Nat) : (outB a b o i j).toList = o.toList ++ b.toList.drop j ++ a.toList.drop i := by
  unfold outB
  rw [Array.toList_append, Array.toList_append, ext_all, ext_all]
theorem drop_nil {a : Array Keyed} {i : Nat} (h : a.size ≤ i) : a.toList.drop i = [] := List.drop_of_length_le (by simpa using h)

def SameS (st st' : SortSt) : Prop := kindOf st' = kindOf st ∧ arrOf st' = arrOf st ∧ pendingOf st' = pendingOf st ∧ failedOf st' = failedOf st
theorem SameS.refl (st : SortSt) : SameS st st := ⟨rfl, rfl, rfl, rfl⟩
theorem SameS.trans {a b c : SortSt} (h : SameS a b) (k : SameS b c) : SameS a c := ⟨k.1.trans h.1, k.2.1.trans h.2.1, k.2.2.1.trans h.2.2.1, k.2.2.2.trans h.2.2.2⟩
def Merged (κ : KeyKind) (a b r : Array Keyed) : Prop := Srt κ r.toList ∧ r.toList.Perm (a.toList ++ b.toList)
/-- what a merge is handed -/
structure Two (κ : KeyKind) (a b : Array Keyed) : Prop where
  ka : KeysOf κ a
  kb : KeysOf κ b
  sa : Srt κ a.toList
  sb : Srt κ b.toList
  na : 0 < a.size
  nb : 0 < b.size
  first : ∀ x, b[0]? = some x → ∀ y ∈ a.toList, Le κ x y
  last : ∀ y ∈ b.toList, ∀ z ∈ a.toList.drop (a.size - 1), Le κ y z
theorem Two.endA {κ : KeyKind} {a b : Array Keyed} (T : Two κ a b) {i j : Nat} {o : Array Keyed} (m : Mg κ a.toList b.toList i j o.toList) (h : b.size ≤ j ∨ a.size ≤ i) : Merged κ a b (outA a b o i j) := by
  unfold Merged
  rw [outA_list]
  refine m.endA T.sa T.sb fun y hy z hz => ?_
  rcases h with h | h
  · rw [drop_nil h] at hz; cases hz
  · rw [drop_nil h] at hy; cases hy
theorem Two.endB {κ : KeyKind} {a b : Array Keyed} (T : Two κ a b) {i j : Nat} {o : Array Keyed} (m : Mg κ a.toList b.toList i j o.toList) (h : i + 1 = a.size) : Merged κ a b (outB a b o i j) := by
  unfold Merged
  rw [outB_list]
  exact m.endB T.sa T.sb fun y hy z hz => T.last y (List.mem_of_mem_drop hy) z (by rw [show a.size - 1 = i by omega]; exact hz)
section
variable {prog : Program} {w : World} {A : Around} {E : Value → Shared → Prop} {s : Shared} {κ : KeyKind}
theorem wpS_setGal {g : Nat} {st : SortSt} {Q : Unit → SortSt → Prop} (h : ∀ st', SameS st st' → Q () st') : wpS (model prog w) A E s (setGal g) Q st := by
  unfold setGal
  exact wpS_modify (h _ ⟨rfl, rfl, rfl, rfl⟩)
theorem wpS_rule {x : String} {st : SortSt} {Q : Unit → SortSt → Prop} (h : Q () st) : wpS (model prog w) A E s (liftM (rule x) : StateT SortSt Sem Unit) Q st := wpS_lift (wpAny_rule ⟨rfl, h⟩)
/-- between two turns: both have more, a two or more -/
structure At (κ : KeyKind) (a b : Array Keyed) (n i j : Nat) (o : Array Keyed) : Prop where
  mg : Mg κ a.toList b.toList i j o.toList
  hj : j < b.size
  hi : i + 1 < a.size
  n : n ≤ i + j
theorem beyF_t {k : κ.α} {arr : Array Keyed} {b i : Nat} (h : bey κ false k arr b i = true) : κ.kle (KK κ arr (b + i)) k := by
  have h2 : (!κ.blt k (KK κ arr (b + i))) = true := h
  have : κ.blt k (KK κ arr (b + i)) = false := by simpa using h2
  exact this
theorem beyF_f {k : κ.α} {arr : Array Keyed} {b i : Nat} (h : bey κ false k arr b i = false) : κ.klt k (KK κ arr (b + i)) := by
  have h2 : (!κ.blt k (KK κ arr (b + i))) = false := h
  have : κ.blt k (KK κ arr (b + i)) = true := by simpa using h2
  exact this
theorem beyT_t {k : κ.α} {arr : Array Keyed} {b i : Nat} (h : bey κ true k arr b i = true) : κ.klt (KK κ arr (b + i)) k := h
theorem beyT_f {k : κ.α} {arr : Array Keyed} {b i : Nat} (h : bey κ true k arr b i = false) : κ.kle k (KK κ arr (b + i)) := h
theorem monoF {a : Array Keyed} (h : Srt κ a.toList) {k : κ.α} {i n : Nat} (hn : i + n ≤ a.size) : Mono κ false k a i n := fun p q hpq hq hb => by
  have h2 : κ.kle (KK κ a (i + p)) k := KeyOrd.kle_trans (h.at (by omega) (by omega)) (beyF_t hb)
  have h3 : κ.blt k (KK κ a (i + p)) = false := h2
  show (!κ.blt k (KK κ a (i + p))) = true
  rw [h3]; rfl
theorem monoT {a : Array Keyed} (h : Srt κ a.toList) {k : κ.α} {i n : Nat} (hn : i + n ≤ a.size) : Mono κ true k a i n := fun p q hpq hq hb =>
  KeyOrd.klt_of_kle_of_klt (h.at (show i + p ≤ i + q by omega) (by omega)) (beyT_t hb)
theorem wpS_mergeLo (hO : κ.OneLt) {st : SortSt} (hk : kindOf st = oneType') {a b : Array Keyed} (T : Two κ a b) {Q : Array Keyed → SortSt → Prop} (h : ∀ r st', SameS st st' → Merged κ a b r → Q r st') : wpS (model prog w) A E s (mergeLo' a b) Q st := by
  rw [mergeLo'_eq]
  refine wpS_bind (wpS_rule ?_)
  obtain ⟨p0, e0, k0⟩ := keysAt T.kb T.nb
  refine wpS_bind (wpS_elem e0 ?_)
  dsimp only
  have m0 : Mg κ a.toList b.toList 0 1 (#[p0] : Array Keyed).toList := by
    have z : Mg κ a.toList b.toList 0 0 [] := ⟨by simp, List.Pairwise.nil, fun x hx => (nomatch hx), fun x hx => (nomatch hx)⟩
    have z1 := z.takeB T.sb 1 (fun y hy q hq => T.first y (by
      rw [dropTake e0] at hy
      have : y = p0 := by simpa using hy
      rw [this]; exact e0) q (List.mem_of_mem_drop hq))
    rw [dropTake e0] at z1
    exact z1
  by_cases c1 : 1 = b.size
  · rw [if_pos (by simpa using c1)]
    exact wpS_pure (h _ _ (.refl _) (T.endA m0 (.inl (by omega))))
  rw [if_neg (by simpa using c1)]
  by_cases c2 : 0 + 1 = a.size
  · rw [if_pos (by simpa using c2)]
    exact wpS_pure (h _ _ (.refl _) (T.endB m0 c2))
  rw [if_neg (by simpa using c2)]
  have hna := T.na
  have hnb := T.nb
  refine wpS_bind (wpS_get ?_)
  refine wpS_bind (wpS_mono (wpS_forRange (I := fun x c st' => SameS st st' ∧ c.1 = none ∧ At κ a b (x + 1) c.2.2.1 c.2.2.2.1 c.2.1) (Q := fun c st' => SameS st st' ∧ ∃ r, c.1 = some r ∧ Merged κ a b r) ?turn ?fin ⟨.refl _, rfl, m0, by show 1 < b.size; omega, by show 0 + 1 < a.size; omega, by show 0 + 1 ≤ 0 + 1; omega⟩) ?post)
  case fin =>
    rintro c st' ⟨ss, _, at1⟩
    have := at1.n
    have := at1.hi
    have := at1.hj
    omega
  case post =>
    rintro ⟨r, rest⟩ st' ⟨ss, r', er, hm⟩
    dsimp only at er
    subst er
    exact wpS_pure (h _ _ ss hm)
  case turn =>
    rintro x ⟨r, o, i, j, mg⟩ st1 _ hx ⟨ss1, er, at1⟩
    dsimp only at er at1 ⊢
    -- one by one
    refine wpS_bind (wpS_mono (wpS_forRange (I := fun y c st' => st' = st1 ∧ c.1 = none ∧ At κ a b (x + 1 + y) c.2.2.1 c.2.2.2.1 c.2.1)
      (Q := fun c st' => st' = st1 ∧ ((∃ r, c.1 = some r ∧ Merged κ a b r) ∨ (c.1 = none ∧ At κ a b (x + 2) c.2.2.1 c.2.2.2.1 c.2.1))) ?t1 ?f1 ⟨rfl, rfl, at1⟩) ?p1)
    case f1 =>
      rintro c st' ⟨_, _, at2⟩
      have := at2.n
      have := at2.hi
      have := at2.hj
      omega
    case t1 =>
      rintro y ⟨r, o, i, j, ca, cb⟩ st' _ hy ⟨rfl, er, at2⟩
      dsimp only at er at2 ⊢
      obtain ⟨q, eq, kq⟩ := keysAt T.kb at2.hj
      obtain ⟨p, ep, kp⟩ := keysAt T.ka (show i < a.size by have := at2.hi; omega)
      refine wpS_bind (wpS_elem eq (wpS_bind (wpS_elem ep (wpS_bind (wpS_lt2 hO (ss1.1.trans hk) kq kp ?_)))))
      have hhi := at2.hi
      have hhj := at2.hj
      have hhn := at2.n
      cases hb : κ.blt (KK κ b j) (KK κ a i) with
      | true =>
        have m1 := at2.mg.takeB T.sb 1 (fun y hy z hz => by
          rw [dropTake eq] at hy
          have ey : y = q := by simpa using hy
          obtain ⟨t, t1, t2, t3⟩ := mem_drop_at hz
          subst ey
          show κ.kle _ _
          rw [← kf_at eq, ← kf_at t3]
          exact KeyOrd.kle_trans (KeyOrd.kle_of_klt hb) (T.sa.at t1 t2))
        rw [dropTake eq, ← Array.toList_push] at m1
        dsimp only
        rw [if_pos rfl]
        refine wpS_bind (wpS_elem eq ?_)
        by_cases c3 : j + 1 = b.size
        · rw [if_pos (by simpa using c3)]
          exact wpS_pure ⟨rfl, .inl ⟨_, rfl, T.endA m1 (.inl (by omega))⟩⟩
        · rw [if_neg (by simpa using c3)]
          split
          · exact wpS_pure ⟨rfl, .inr ⟨rfl, (show At κ a b (x + 2) i (j + 1) (o.push q) from ⟨m1, by omega, hhi, by omega⟩)⟩⟩
          · exact wpS_pure ⟨rfl, rfl, (show At κ a b (x + 1 + (y + 1)) i (j + 1) (o.push q) from ⟨m1, by omega, hhi, by omega⟩)⟩
      | false =>
        have m1 := at2.mg.takeA T.sa 1 (fun y hy z hz => by
          rw [dropTake ep] at hy
          have ey : y = p := by simpa using hy
          obtain ⟨t, t1, t2, t3⟩ := mem_drop_at hz
          subst ey
          show κ.kle _ _
          rw [← kf_at ep, ← kf_at t3]
          exact KeyOrd.kle_trans (show κ.kle _ _ from hb) (T.sb.at t1 t2))
        rw [dropTake ep, ← Array.toList_push] at m1
        dsimp only
        rw [if_neg (by decide)]
        refine wpS_bind (wpS_elem ep ?_)
        by_cases c3 : i + 1 + 1 = a.size
        · rw [if_pos (by simpa using c3)]
          exact wpS_pure ⟨rfl, .inl ⟨_, rfl, T.endB m1 c3⟩⟩
        · rw [if_neg (by simpa using c3)]
          split
          · exact wpS_pure ⟨rfl, .inr ⟨rfl, (show At κ a b (x + 2) (i + 1) j (o.push p) from ⟨m1, hhj, by omega, by omega⟩)⟩⟩
          · exact wpS_pure ⟨rfl, rfl, (show At κ a b (x + 1 + (y + 1)) (i + 1) j (o.push p) from ⟨m1, hhj, by omega, by omega⟩)⟩
    case p1 =>
      rintro ⟨r, o, i, j, ca, cb⟩ st' ⟨rfl, hor⟩
      dsimp only at hor ⊢
      rcases hor with ⟨r', er', hm⟩ | ⟨er', at2⟩
      · subst er'
        exact wpS_pure ⟨ss1, _, rfl, hm⟩
      · subst er'
        dsimp only
        refine wpS_bind (wpS_rule ?_)
        -- by gallops
        refine wpS_bind (wpS_mono (wpS_forRange (I := fun y c st' => SameS st st' ∧ c.1 = none ∧ At κ a b (x + 2 + y) c.2.2.1 c.2.2.2.1 c.2.1)
          (Q := fun c st' => SameS st st' ∧ ((∃ r, c.1 = some r ∧ Merged κ a b r) ∨ (c.1 = none ∧ At κ a b (x + 2) c.2.2.1 c.2.2.2.1 c.2.1))) ?t2 ?f2 ⟨ss1, rfl, at2⟩) ?p2)
        case f2 =>
          rintro c st' ⟨_, _, at3⟩
          have := at3.n
          have := at3.hi
          have := at3.hj
          omega
        case p2 =>
          rintro ⟨r, o, i, j, mg, ca, cb⟩ st2 ⟨ss2, hor⟩
          dsimp only at hor ⊢
          rcases hor with ⟨r', er', hm⟩ | ⟨er', at3⟩
          · subst er'
            exact wpS_pure ⟨ss2, _, rfl, hm⟩
          · subst er'
            dsimp only
            exact wpS_bind (wpS_setGal fun st3 ss3 => wpS_pure ⟨ss2.trans ss3, rfl, at3⟩)
        case t2 =>
          rintro y ⟨r, o, i, j, mg, ca, cb⟩ st2 _ hy ⟨ss2, er, at3⟩
          dsimp only at er at3 ⊢
          have hhi := at3.hi
          have hhj := at3.hj
          have hhn := at3.n
          obtain ⟨q, eq, kq⟩ := keysAt T.kb hhj
          by_cases c9 : mg > 1
          case' pos => rw [if_pos c9]
          case' neg => rw [if_neg c9]
          all_goals
            refine wpS_bind (wpS_setGal fun st3 ss3 => ?_)
            have ss4 := ss2.trans ss3
            refine wpS_bind (wpS_elem eq (wpS_bind (wpS_gallop hO (ss4.1.trans hk) kq T.ka (by omega) (by omega) (monoF T.sa (by omega)) fun k hk1 hk2 hk3 => ?_)))
            dsimp only
            have hq : ∀ z ∈ a.toList.drop (i + k), Le κ q z := fun z hz => by
              obtain ⟨t, t1, t2, t3⟩ := mem_drop_at hz
              show κ.kle _ _
              rw [← kf_at eq, ← kf_at t3]
              have := beyF_f (hk3 (t - i) (by omega) (by omega))
              rw [show i + (t - i) = t by omega] at this
              exact KeyOrd.kle_of_klt this
            have m1 := at3.mg.takeA T.sa k (fun y hy z hz => by
              obtain ⟨t, t1, t2, t3, t4⟩ := mem_part_at hy
              obtain ⟨u, u1, u2, u3⟩ := mem_drop_at hz
              show κ.kle _ _
              rw [← kf_at t4, ← kf_at u3]
              have := beyF_t (hk2 (t - i) (by omega))
              rw [show i + (t - i) = t by omega] at this
              exact KeyOrd.kle_trans this (T.sb.at u1 u2))
            by_cases hk0 : k > 0
            · rw [if_pos hk0]
              rw [← ext_toList a i k (by omega), ← Array.toList_append] at m1
              by_cases c4 : i + k + 1 = a.size
              · rw [if_pos (by simpa using c4)]
                exact wpS_pure ⟨ss4, .inl ⟨_, rfl, T.endB m1 c4⟩⟩
              rw [if_neg (by simpa using c4)]
              by_cases c5 : i + k = a.size
              · rw [if_pos (by simpa using c5)]
                exact wpS_pure ⟨ss4, .inl ⟨_, rfl, T.endA m1 (.inr (by omega))⟩⟩
              rw [if_neg (by simpa using c5)]
              have hi1 : i + k + 1 < a.size := by omega
              have hn1 : x + 2 + y ≤ i + k + j := by omega
              clear c4 c5 hk2 hk3 hk0
              generalize o ++ a.extract i (i + k) = o1 at m1 ⊢
              generalize i + k = i1 at m1 hq hi1 hn1 ⊢
              refine wpS_bind (wpS_elem eq ?_)
              have m2 := m1.takeB T.sb 1 (fun y hy z hz => by
                rw [dropTake eq] at hy
                have ey : y = q := by simpa using hy
                subst ey
                exact hq z hz)
              rw [dropTake eq, ← Array.toList_push] at m2
              by_cases c6 : j + 1 = b.size
              · rw [if_pos (by simpa using c6)]
                exact wpS_pure ⟨ss4, .inl ⟨_, rfl, T.endA m2 (.inl (by omega))⟩⟩
              rw [if_neg (by simpa using c6)]
              obtain ⟨p, ep, kp⟩ := keysAt T.ka (show i1 < a.size by omega)
              refine wpS_bind (wpS_elem ep (wpS_bind (wpS_gallop hO (ss4.1.trans hk) kp T.kb (by omega) (by omega) (monoT T.sb (by omega)) fun l hl1 hl2 hl3 => ?_)))
              dsimp only
              have m3 := m2.takeB T.sb l (fun y hy z hz => by
                obtain ⟨t, t1, t2, t3, t4⟩ := mem_part_at hy
                obtain ⟨u, u1, u2, u3⟩ := mem_drop_at hz
                show κ.kle _ _
                rw [← kf_at t4, ← kf_at u3]
                have := beyT_t (hl2 (t - (j + 1)) (by omega))
                rw [show j + 1 + (t - (j + 1)) = t by omega] at this
                exact KeyOrd.kle_trans (KeyOrd.kle_of_klt this) (T.sa.at u1 u2))
              have hp : ∀ z ∈ b.toList.drop (j + 1 + l), Le κ p z := fun z hz => by
                obtain ⟨t, t1, t2, t3⟩ := mem_drop_at hz
                show κ.kle _ _
                rw [← kf_at ep, ← kf_at t3]
                have := beyT_f (hl3 (t - (j + 1)) (by omega) (by omega))
                rw [show j + 1 + (t - (j + 1)) = t by omega] at this
                exact this
              by_cases hl0 : l > 0
              · rw [if_pos hl0]
                rw [← ext_toList b (j + 1) l (by omega), ← Array.toList_append] at m3
                by_cases c7 : j + 1 + l = b.size
                · rw [if_pos (by simpa using c7)]
                  exact wpS_pure ⟨ss4, .inl ⟨_, rfl, T.endA m3 (.inl (by omega))⟩⟩
                rw [if_neg (by simpa using c7)]
                have hj1 : j + 1 + l < b.size := by omega
                have hn2 : x + 2 + y + 1 ≤ i1 + (j + 1 + l) := by omega
                clear c7 hl2 hl3 hl0
                generalize o1.push q ++ b.extract (j + 1) (j + 1 + l) = o2 at m3 ⊢
                generalize j + 1 + l = j1 at m3 hp hj1 hn2 ⊢
                refine wpS_bind (wpS_elem ep ?_)
                have m4 := m3.takeA T.sa 1 (fun y hy z hz => by
                  rw [dropTake ep] at hy
                  have ey : y = p := by simpa using hy
                  subst ey
                  exact hp z hz)
                rw [dropTake ep, ← Array.toList_push] at m4
                by_cases c8 : i1 + 1 + 1 = a.size
                · rw [if_pos (by simpa using c8)]
                  exact wpS_pure ⟨ss4, .inl ⟨_, rfl, T.endB m4 c8⟩⟩
                rw [if_neg (by simpa using c8)]
                split
                · exact wpS_pure ⟨ss4, .inr ⟨rfl, (show At κ a b (x + 2) (i1 + 1) j1 (o2.push p) from ⟨m4, hj1, by omega, by omega⟩)⟩⟩
                · exact wpS_pure ⟨ss4, rfl, (show At κ a b (x + 2 + (y + 1)) (i1 + 1) j1 (o2.push p) from ⟨m4, hj1, by omega, by omega⟩)⟩
              · rw [if_neg hl0]
                have el : l = 0 := by omega
                subst el
                rw [List.take_zero, List.append_nil] at m3
                rw [Nat.add_zero] at m3 hp
                have hj1 : j + 1 < b.size := by omega
                have hn2 : x + 2 + y + 1 ≤ i1 + (j + 1) := by omega
                clear hl2 hl3 hl0
                generalize o1.push q = o2 at m3 ⊢
                generalize j + 1 = j1 at m3 hp hj1 hn2 ⊢
                refine wpS_bind (wpS_elem ep ?_)
                have m4 := m3.takeA T.sa 1 (fun y hy z hz => by
                  rw [dropTake ep] at hy
                  have ey : y = p := by simpa using hy
                  subst ey
                  exact hp z hz)
                rw [dropTake ep, ← Array.toList_push] at m4
                by_cases c8 : i1 + 1 + 1 = a.size
                · rw [if_pos (by simpa using c8)]
                  exact wpS_pure ⟨ss4, .inl ⟨_, rfl, T.endB m4 c8⟩⟩
                rw [if_neg (by simpa using c8)]
                split
                · exact wpS_pure ⟨ss4, .inr ⟨rfl, (show At κ a b (x + 2) (i1 + 1) j1 (o2.push p) from ⟨m4, hj1, by omega, by omega⟩)⟩⟩
                · exact wpS_pure ⟨ss4, rfl, (show At κ a b (x + 2 + (y + 1)) (i1 + 1) j1 (o2.push p) from ⟨m4, hj1, by omega, by omega⟩)⟩
            · rw [if_neg hk0]
              have ek : k = 0 := by omega
              subst ek
              rw [List.take_zero, List.append_nil] at m1
              rw [Nat.add_zero] at m1 hq
              have hi1 := hhi
              have hn1 := hhn
              clear hk2 hk3 hk0
              generalize o = o1 at m1 ⊢
              generalize i = i1 at m1 hq hi1 hn1 ⊢
              refine wpS_bind (wpS_elem eq ?_)
              have m2 := m1.takeB T.sb 1 (fun y hy z hz => by
                rw [dropTake eq] at hy
                have ey : y = q := by simpa using hy
                subst ey
                exact hq z hz)
              rw [dropTake eq, ← Array.toList_push] at m2
              by_cases c6 : j + 1 = b.size
              · rw [if_pos (by simpa using c6)]
                exact wpS_pure ⟨ss4, .inl ⟨_, rfl, T.endA m2 (.inl (by omega))⟩⟩
              rw [if_neg (by simpa using c6)]
              obtain ⟨p, ep, kp⟩ := keysAt T.ka (show i1 < a.size by omega)
              refine wpS_bind (wpS_elem ep (wpS_bind (wpS_gallop hO (ss4.1.trans hk) kp T.kb (by omega) (by omega) (monoT T.sb (by omega)) fun l hl1 hl2 hl3 => ?_)))
              dsimp only
              have m3 := m2.takeB T.sb l (fun y hy z hz => by
                obtain ⟨t, t1, t2, t3, t4⟩ := mem_part_at hy
                obtain ⟨u, u1, u2, u3⟩ := mem_drop_at hz
                show κ.kle _ _
                rw [← kf_at t4, ← kf_at u3]
                have := beyT_t (hl2 (t - (j + 1)) (by omega))
                rw [show j + 1 + (t - (j + 1)) = t by omega] at this
                exact KeyOrd.kle_trans (KeyOrd.kle_of_klt this) (T.sa.at u1 u2))
              have hp : ∀ z ∈ b.toList.drop (j + 1 + l), Le κ p z := fun z hz => by
                obtain ⟨t, t1, t2, t3⟩ := mem_drop_at hz
                show κ.kle _ _
                rw [← kf_at ep, ← kf_at t3]
                have := beyT_f (hl3 (t - (j + 1)) (by omega) (by omega))
                rw [show j + 1 + (t - (j + 1)) = t by omega] at this
                exact this
              by_cases hl0 : l > 0
              · rw [if_pos hl0]
                rw [← ext_toList b (j + 1) l (by omega), ← Array.toList_append] at m3
                by_cases c7 : j + 1 + l = b.size
                · rw [if_pos (by simpa using c7)]
                  exact wpS_pure ⟨ss4, .inl ⟨_, rfl, T.endA m3 (.inl (by omega))⟩⟩
                rw [if_neg (by simpa using c7)]
                have hj1 : j + 1 + l < b.size := by omega
                have hn2 : x + 2 + y + 1 ≤ i1 + (j + 1 + l) := by omega
                clear c7 hl2 hl3 hl0
                generalize o1.push q ++ b.extract (j + 1) (j + 1 + l) = o2 at m3 ⊢
                generalize j + 1 + l = j1 at m3 hp hj1 hn2 ⊢
                refine wpS_bind (wpS_elem ep ?_)
                have m4 := m3.takeA T.sa 1 (fun y hy z hz => by
                  rw [dropTake ep] at hy
                  have ey : y = p := by simpa using hy
                  subst ey
                  exact hp z hz)
                rw [dropTake ep, ← Array.toList_push] at m4
                by_cases c8 : i1 + 1 + 1 = a.size
                · rw [if_pos (by simpa using c8)]
                  exact wpS_pure ⟨ss4, .inl ⟨_, rfl, T.endB m4 c8⟩⟩
                rw [if_neg (by simpa using c8)]
                split
                · exact wpS_pure ⟨ss4, .inr ⟨rfl, (show At κ a b (x + 2) (i1 + 1) j1 (o2.push p) from ⟨m4, hj1, by omega, by omega⟩)⟩⟩
                · exact wpS_pure ⟨ss4, rfl, (show At κ a b (x + 2 + (y + 1)) (i1 + 1) j1 (o2.push p) from ⟨m4, hj1, by omega, by omega⟩)⟩
              · rw [if_neg hl0]
                have el : l = 0 := by omega
                subst el
                rw [List.take_zero, List.append_nil] at m3
                rw [Nat.add_zero] at m3 hp
                have hj1 : j + 1 < b.size := by omega
                have hn2 : x + 2 + y + 1 ≤ i1 + (j + 1) := by omega
                clear hl2 hl3 hl0
                generalize o1.push q = o2 at m3 ⊢
                generalize j + 1 = j1 at m3 hp hj1 hn2 ⊢
                refine wpS_bind (wpS_elem ep ?_)
                have m4 := m3.takeA T.sa 1 (fun y hy z hz => by
                  rw [dropTake ep] at hy
                  have ey : y = p := by simpa using hy
                  subst ey
                  exact hp z hz)
                rw [dropTake ep, ← Array.toList_push] at m4
                by_cases c8 : i1 + 1 + 1 = a.size
                · rw [if_pos (by simpa using c8)]
                  exact wpS_pure ⟨ss4, .inl ⟨_, rfl, T.endB m4 c8⟩⟩
                rw [if_neg (by simpa using c8)]
                split
                · exact wpS_pure ⟨ss4, .inr ⟨rfl, (show At κ a b (x + 2) (i1 + 1) j1 (o2.push p) from ⟨m4, hj1, by omega, by omega⟩)⟩⟩
                · exact wpS_pure ⟨ss4, rfl, (show At κ a b (x + 2 + (y + 1)) (i1 + 1) j1 (o2.push p) from ⟨m4, hj1, by omega, by omega⟩)⟩
end
end L2S
/-! Lists of any length sorted: the upper merge. -/
namespace L2S
set_option autoImplicit false
open PySem PyProof.Rows

def mergeHi' : Array Keyed → Array Keyed → StateT SortSt Sem (Array Keyed) := sortPriv% PySem.Builtin.mergeHi
def hiA (a b o : Array Keyed) (i j : Nat) : Array Keyed := a.extract 0 i ++ b.extract 0 j ++ o.reverse
def hiB (a b o : Array Keyed) (i j : Nat) : Array Keyed := b.extract 0 j ++ a.extract 0 i ++ o.reverse
theorem mergeHi'_eq (a b : Array Keyed) : mergeHi' a b = (do
  rule "list.sort.merge-hi"
  let tt := a.size + b.size
  let mut i := a.size - 1
  let mut j := b.size
  let mut o : Array Keyed := #[← elem' a i]
  if i == 0 then return hiA a b o i j
  if j == 1 then return hiB a b o i j
  let mut mg := gallopOf (← get)
  for _ in [0:tt] do
    let mut ca := 0
    let mut cb := 0
    for _ in [0:tt] do
      let some aw ← lt' (← elem' b (j - 1)) (← elem' a (i - 1)) | return hiA a b o i j
      if aw then
        i := i - 1; o := o.push (← elem' a i); ca := ca + 1; cb := 0
        if i == 0 then return hiA a b o i j
        if ca ≥ mg then break
      else
        j := j - 1; o := o.push (← elem' b j); cb := cb + 1; ca := 0
        if j == 1 then return hiB a b o i j
        if cb ≥ mg then break
    rule "list.sort.gallop"
    mg := mg + 1
    for _ in [0:tt] do
      if mg > 1 then mg := mg - 1
      setGal mg
      let some u ← gallop' false (← elem' b (j - 1)) a 0 i (i - 1) | return hiA a b o i j
      let k := i - u
      ca := k
      if k > 0 then
        o := o ++ (a.extract u i).reverse; i := u
        if i == 0 then return hiA a b o i j
      j := j - 1; o := o.push (← elem' b j)
      if j == 1 then return hiB a b o i j
      let some u ← gallop' true (← elem' a (i - 1)) b 0 j (j - 1) | return hiA a b o i j
      let k := j - u
      cb := k
      if k > 0 then
        o := o ++ (b.extract u j).reverse; j := u
        if j == 1 then return hiB a b o i j
        if j == 0 then return hiA a b o i j
      i := i - 1; o := o.push (← elem' a i)
      if i == 0 then return hiA a b o i j
      if ca < 7 && cb < 7 then break
    mg := mg + 1
    setGal mg
  unsupported "internal:list.sort.merge-bound") := rfl

structure Mh (κ : KeyKind) (a b : List Keyed) (i j : Nat) (t : List Keyed) : Prop where
  perm : t.Perm (a.drop i ++ b.drop j)
  srt : Srt κ t
  lea : ∀ x ∈ a.take i, ∀ y ∈ t, Le κ x y
  leb : ∀ x ∈ b.take j, ∀ y ∈ t, Le κ x y
theorem Mh.swap {κ : KeyKind} {a b : List Keyed} {i j : Nat} {t : List Keyed} (m : Mh κ a b i j t) : Mh κ b a j i t := ⟨m.perm.trans List.perm_append_comm, m.srt, m.leb, m.lea⟩
theorem Mh.takeA {κ : KeyKind} {a b : List Keyed} {i j : Nat} {t : List Keyed} (m : Mh κ a b i j t) (hs : Srt κ a) {u : Nat} (hu : u ≤ i) (h : ∀ z ∈ b.take j, ∀ y ∈ (a.drop u).take (i - u), Le κ z y) : Mh κ a b u j ((a.drop u).take (i - u) ++ t) := by
  have e1 : a.drop u = (a.drop u).take (i - u) ++ a.drop i := by
    have : a.drop i = (a.drop u).drop (i - u) := by rw [List.drop_drop]; congr 1; omega
    rw [this, List.take_append_drop]
  have e2 : a.take i = a.take u ++ (a.drop u).take (i - u) := by
    have : i = u + (i - u) := by omega
    conv => lhs; rw [this]
    exact List.take_add
  have hp := hs
  rw [show a = a.take u ++ a.drop u from (List.take_append_drop u a).symm] at hp
  have hp2 := (List.pairwise_append.mp hp).2.2
  refine ⟨?_, List.pairwise_append.mpr ⟨(hs.drop u).sublist (List.take_sublist _ _), m.srt, fun x hx y hy => m.lea x (by rw [e2]; exact List.mem_append_right _ hx) y hy⟩, fun x hx y hy => ?_, fun x hx y hy => ?_⟩
  · have : a.drop u ++ b.drop j = (a.drop u).take (i - u) ++ (a.drop i ++ b.drop j) := by rw [← List.append_assoc, ← e1]
    rw [this]
    exact List.Perm.append_left _ m.perm
  · rcases List.mem_append.mp hy with z | z
    · exact hp2 x hx y (List.mem_of_mem_take z)
    · exact m.lea x (by rw [e2]; exact List.mem_append_left _ hx) y z
  · rcases List.mem_append.mp hy with z | z
    · exact h x hx y z
    · exact m.leb x hx y z
theorem Mh.takeB {κ : KeyKind} {a b : List Keyed} {i j : Nat} {t : List Keyed} (m : Mh κ a b i j t) (hs : Srt κ b) {u : Nat} (hu : u ≤ j) (h : ∀ z ∈ a.take i, ∀ y ∈ (b.drop u).take (j - u), Le κ z y) : Mh κ a b i u ((b.drop u).take (j - u) ++ t) :=
  (m.swap.takeA hs hu h).swap
theorem Mh.endA {κ : KeyKind} {a b : List Keyed} {i j : Nat} {t : List Keyed} (m : Mh κ a b i j t) (ha : Srt κ a) (hb : Srt κ b) (h : ∀ y ∈ a.take i, ∀ z ∈ b.take j, Le κ y z) : Srt κ (a.take i ++ b.take j ++ t) ∧ (a.take i ++ b.take j ++ t).Perm (a ++ b) := by
  refine ⟨List.pairwise_append.mpr ⟨List.pairwise_append.mpr ⟨ha.sublist (List.take_sublist _ _), hb.sublist (List.take_sublist _ _), h⟩, m.srt, fun x hx y hy => ?_⟩, ?_⟩
  · rcases List.mem_append.mp hx with z | z
    · exact m.lea x z y hy
    · exact m.leb x z y hy
  · refine (List.Perm.append_left _ m.perm).trans ?_
    have e3 : a ++ b = (a.take i ++ a.drop i) ++ (b.take j ++ b.drop j) := by rw [List.take_append_drop, List.take_append_drop]
    rw [e3]
    simp only [List.append_assoc]
    refine List.Perm.append_left _ ?_
    rw [← List.append_assoc, ← List.append_assoc]
    exact List.Perm.append_right _ List.perm_append_comm
theorem Mh.endB {κ : KeyKind} {a b : List Keyed} {i j : Nat} {t : List Keyed} (m : Mh κ a b i j t) (ha : Srt κ a) (hb : Srt κ b) (h : ∀ y ∈ b.take j, ∀ z ∈ a.take i, Le κ y z) : Srt κ (b.take j ++ a.take i ++ t) ∧ (b.take j ++ a.take i ++ t).Perm (a ++ b) := by
  obtain ⟨h1, h2⟩ := m.swap.endA hb ha h
  exact ⟨h1, h2.trans List.perm_append_comm⟩
theorem mem_take_at {a : Array Keyed} {n : Nat} {y : Keyed} (h : y ∈ a.toList.take n) : ∃ j, j < n ∧ j < a.size ∧ a[j]? = some y := by
  have h' : y ∈ (a.toList.drop 0).take n := h
  obtain ⟨j, _, h2, h3, h4⟩ := mem_part_at h'
  exact ⟨j, by omega, h3, h4⟩
theorem ext_to (a : Array Keyed) (i : Nat) : (a.extract 0 i).toList = a.toList.take i := by
  rw [Array.toList_extract, List.extract, List.drop_zero, Nat.sub_zero]
theorem ext_part (a : Array Keyed) (u i : Nat) : (a.extract u i).toList = (a.toList.drop u).take (i - u) := by rw [Array.toList_extract, List.extract]
theorem hiA_list (a b o : Array Keyed) (i j : Nat) : (hiA a b o i j).toList = a.toList.take i ++ b.toList.take j ++ o.toList.reverse := by
  unfold hiA
  rw [Array.toList_append, Array.toList_append, ext_to, ext_to, Array.toList_reverse]
theorem hiB_list (a b o : Array Keyed) (i j : Nat) : (hiB a b o i j).toList = b.toList.take j ++ a.toList.take i ++ o.toList.reverse := by
  unfold hiB
  rw [Array.toList_append, Array.toList_append, ext_to, ext_to, Array.toList_reverse]
theorem lastOne {a : Array Keyed} {i : Nat} {p : Keyed} (h0 : 0 < i) (h : a[i - 1]? = some p) : (a.toList.drop (i - 1)).take (i - (i - 1)) = [p] := by
  rw [show i - (i - 1) = 1 by omega]
  exact dropTake h
section
variable {prog : Program} {w : World} {A : Around} {E : Value → Shared → Prop} {s : Shared} {κ : KeyKind}
theorem Two.hiA {a b : Array Keyed} (T : Two κ a b) {i j : Nat} {o : Array Keyed} (m : Mh κ a.toList b.toList i j o.toList.reverse) (h : i = 0 ∨ j = 0) : Merged κ a b (hiA a b o i j) := by
  unfold Merged
  rw [hiA_list]
  refine m.endA T.sa T.sb fun y hy z hz => ?_
  rcases h with h | h
  · subst h; rw [List.take_zero] at hy; cases hy
  · subst h; rw [List.take_zero] at hz; cases hz
theorem Two.hiB {a b : Array Keyed} (T : Two κ a b) {i j : Nat} {o : Array Keyed} (m : Mh κ a.toList b.toList i j o.toList.reverse) (h : j = 1) : Merged κ a b (hiB a b o i j) := by
  unfold Merged
  rw [hiB_list]
  refine m.endB T.sa T.sb fun y hy z hz => ?_
  subst h
  obtain ⟨t, t1, t2, t3⟩ := mem_take_at hy
  have e : t = 0 := by omega
  subst e
  exact T.first y t3 z (List.mem_of_mem_take hz)
/-- between two turns: a has one more, b two or more -/
structure Ah (κ : KeyKind) (a b : Array Keyed) (n i j : Nat) (o : Array Keyed) : Prop where
  mg : Mh κ a.toList b.toList i j o.toList.reverse
  hi : 1 ≤ i
  hj : 2 ≤ j
  la : i ≤ a.size
  lb : j ≤ b.size
  n : n + i + j ≤ a.size + b.size
theorem wpS_mergeHi (hO : κ.OneLt) {st : SortSt} (hk : kindOf st = oneType') {a b : Array Keyed} (T : Two κ a b) {Q : Array Keyed → SortSt → Prop} (h : ∀ r st', SameS st st' → Merged κ a b r → Q r st') : wpS (model prog w) A E s (mergeHi' a b) Q st := by
  rw [mergeHi'_eq]
  have hna := T.na
  have hnb := T.nb
  refine wpS_bind (wpS_rule ?_)
  obtain ⟨p0, e0, k0⟩ := keysAt T.ka (show a.size - 1 < a.size by omega)
  refine wpS_bind (wpS_elem e0 ?_)
  dsimp only
  have m0 : Mh κ a.toList b.toList (a.size - 1) b.size (#[p0] : Array Keyed).toList.reverse := by
    have z : Mh κ a.toList b.toList a.size b.size [] := ⟨by rw [drop_nil (Nat.le_refl _), drop_nil (Nat.le_refl _)]; exact List.Perm.refl _, List.Pairwise.nil, fun x _ y hy => (nomatch hy), fun x _ y hy => (nomatch hy)⟩
    have z1 := z.takeA T.sa (u := a.size - 1) (by omega) (fun q hq y hy => T.last q (List.mem_of_mem_take hq) y (List.mem_of_mem_take hy))
    rw [lastOne hna e0] at z1
    exact z1
  by_cases c1 : a.size - 1 = 0
  · rw [if_pos (by simpa using c1)]
    exact wpS_pure (h _ _ (.refl _) (T.hiA m0 (.inl c1)))
  rw [if_neg (by simpa using c1)]
  by_cases c2 : b.size = 1
  · rw [if_pos (by simpa using c2)]
    exact wpS_pure (h _ _ (.refl _) (T.hiB m0 c2))
  rw [if_neg (by simpa using c2)]
  refine wpS_bind (wpS_get ?_)
  refine wpS_bind (wpS_mono (wpS_forRange (I := fun x c st' => SameS st st' ∧ c.1 = none ∧ Ah κ a b (x + 1) c.2.1 c.2.2.1 c.2.2.2.1) (Q := fun c st' => SameS st st' ∧ ∃ r, c.1 = some r ∧ Merged κ a b r) ?turn ?fin
    ⟨.refl _, rfl, (show Ah κ a b (0 + 1) (a.size - 1) b.size #[p0] from ⟨m0, by omega, by omega, by omega, by omega, by omega⟩)⟩) ?post)
  case fin =>
    rintro c st' ⟨ss, _, at1⟩
    have := at1.n
    have := at1.hi
    have := at1.hj
    omega
  case post =>
    rintro ⟨r, rest⟩ st' ⟨ss, r', er, hm⟩
    dsimp only at er
    subst er
    exact wpS_pure (h _ _ ss hm)
  case turn =>
    rintro x ⟨r, i, j, o, mg⟩ st1 _ hx ⟨ss1, er, at1⟩
    dsimp only at er at1 ⊢
    -- one by one
    refine wpS_bind (wpS_mono (wpS_forRange (I := fun y c st' => st' = st1 ∧ c.1 = none ∧ Ah κ a b (x + 1 + y) c.2.1 c.2.2.1 c.2.2.2.1)
      (Q := fun c st' => st' = st1 ∧ ((∃ r, c.1 = some r ∧ Merged κ a b r) ∨ (c.1 = none ∧ Ah κ a b (x + 2) c.2.1 c.2.2.1 c.2.2.2.1))) ?t1 ?f1 ⟨rfl, rfl, at1⟩) ?p1)
    case f1 =>
      rintro c st' ⟨_, _, at2⟩
      have := at2.n
      have := at2.hi
      have := at2.hj
      omega
    case t1 =>
      rintro y ⟨r, i, j, o, ca, cb⟩ st' _ hy ⟨rfl, er, at2⟩
      dsimp only at er at2 ⊢
      have hhi := at2.hi
      have hhj := at2.hj
      have hhn := at2.n
      have hla := at2.la
      have hlb := at2.lb
      obtain ⟨q, eq, kq⟩ := keysAt T.kb (show j - 1 < b.size by omega)
      obtain ⟨p, ep, kp⟩ := keysAt T.ka (show i - 1 < a.size by omega)
      refine wpS_bind (wpS_elem eq (wpS_bind (wpS_elem ep (wpS_bind (wpS_lt2 hO (ss1.1.trans hk) kq kp ?_)))))
      cases hb : κ.blt (KK κ b (j - 1)) (KK κ a (i - 1)) with
      | true =>
        have m1 := at2.mg.takeA T.sa (u := i - 1) (by omega) (fun z hz y hy => by
          rw [lastOne (by omega) ep] at hy
          have ey : y = p := by simpa using hy
          obtain ⟨t, t1, t2, t3⟩ := mem_take_at hz
          subst ey
          show κ.kle _ _
          rw [← kf_at ep, ← kf_at t3]
          exact KeyOrd.kle_trans (T.sb.at (show t ≤ j - 1 by omega) (by omega)) (KeyOrd.kle_of_klt hb))
        rw [lastOne (by omega) ep] at m1
        have m2 : Mh κ a.toList b.toList (i - 1) j (o.push p).toList.reverse := by rw [Array.toList_push, List.reverse_append]; exact m1
        dsimp only
        rw [if_pos rfl]
        refine wpS_bind (wpS_elem ep ?_)
        by_cases c3 : i - 1 = 0
        · rw [if_pos (by simpa using c3)]
          exact wpS_pure ⟨rfl, .inl ⟨_, rfl, T.hiA m2 (.inl c3)⟩⟩
        · rw [if_neg (by simpa using c3)]
          split
          · exact wpS_pure ⟨rfl, .inr ⟨rfl, (show Ah κ a b (x + 2) (i - 1) j (o.push p) from ⟨m2, by omega, hhj, by omega, hlb, by omega⟩)⟩⟩
          · exact wpS_pure ⟨rfl, rfl, (show Ah κ a b (x + 1 + (y + 1)) (i - 1) j (o.push p) from ⟨m2, by omega, hhj, by omega, hlb, by omega⟩)⟩
      | false =>
        have m1 := at2.mg.takeB T.sb (u := j - 1) (by omega) (fun z hz y hy => by
          rw [lastOne (by omega) eq] at hy
          have ey : y = q := by simpa using hy
          obtain ⟨t, t1, t2, t3⟩ := mem_take_at hz
          subst ey
          show κ.kle _ _
          rw [← kf_at eq, ← kf_at t3]
          exact KeyOrd.kle_trans (T.sa.at (show t ≤ i - 1 by omega) (by omega)) (show κ.kle _ _ from hb))
        rw [lastOne (by omega) eq] at m1
        have m2 : Mh κ a.toList b.toList i (j - 1) (o.push q).toList.reverse := by rw [Array.toList_push, List.reverse_append]; exact m1
        dsimp only
        rw [if_neg (by decide)]
        refine wpS_bind (wpS_elem eq ?_)
        by_cases c3 : j - 1 = 1
        · rw [if_pos (by simpa using c3)]
          exact wpS_pure ⟨rfl, .inl ⟨_, rfl, T.hiB m2 c3⟩⟩
        · rw [if_neg (by simpa using c3)]
          split
          · exact wpS_pure ⟨rfl, .inr ⟨rfl, (show Ah κ a b (x + 2) i (j - 1) (o.push q) from ⟨m2, hhi, by omega, hla, by omega, by omega⟩)⟩⟩
          · exact wpS_pure ⟨rfl, rfl, (show Ah κ a b (x + 1 + (y + 1)) i (j - 1) (o.push q) from ⟨m2, hhi, by omega, hla, by omega, by omega⟩)⟩
    case p1 =>
      rintro ⟨r, i, j, o, ca, cb⟩ st' ⟨rfl, hor⟩
      dsimp only at hor ⊢
      rcases hor with ⟨r', er', hm⟩ | ⟨er', at2⟩
      · subst er'
        exact wpS_pure ⟨ss1, _, rfl, hm⟩
      · subst er'
        dsimp only
        refine wpS_bind (wpS_rule ?_)
        -- by gallops
        refine wpS_bind (wpS_mono (wpS_forRange (I := fun y c st' => SameS st st' ∧ c.1 = none ∧ Ah κ a b (x + 2 + y) c.2.1 c.2.2.1 c.2.2.2.1)
          (Q := fun c st' => SameS st st' ∧ ((∃ r, c.1 = some r ∧ Merged κ a b r) ∨ (c.1 = none ∧ Ah κ a b (x + 2) c.2.1 c.2.2.1 c.2.2.2.1))) ?t2 ?f2 ⟨ss1, rfl, at2⟩) ?p2)
        case f2 =>
          rintro c st' ⟨_, _, at3⟩
          have := at3.n
          have := at3.hi
          have := at3.hj
          omega
        case p2 =>
          rintro ⟨r, i, j, o, mg, ca, cb⟩ st2 ⟨ss2, hor⟩
          dsimp only at hor ⊢
          rcases hor with ⟨r', er', hm⟩ | ⟨er', at3⟩
          · subst er'
            exact wpS_pure ⟨ss2, _, rfl, hm⟩
          · subst er'
            dsimp only
            exact wpS_bind (wpS_setGal fun st3 ss3 => wpS_pure ⟨ss2.trans ss3, rfl, at3⟩)
        case t2 =>
          rintro y ⟨r, i, j, o, mg, ca, cb⟩ st2 _ hy ⟨ss2, er, at3⟩
          dsimp only at er at3 ⊢
          have hhi := at3.hi
          have hhj := at3.hj
          have hhn := at3.n
          have hla := at3.la
          have hlb := at3.lb
          obtain ⟨q, eq, kq⟩ := keysAt T.kb (show j - 1 < b.size by omega)
          by_cases c9 : mg > 1
          case' pos => rw [if_pos c9]
          case' neg => rw [if_neg c9]
          all_goals
            refine wpS_bind (wpS_setGal fun st3 ss3 => ?_)
            have ss4 := ss2.trans ss3
            refine wpS_bind (wpS_elem eq (wpS_bind (wpS_gallop hO (ss4.1.trans hk) kq T.ka (base := 0) (by omega) (by omega) (monoF T.sa (by omega)) fun u hu1 hu2 hu3 => ?_)))
            dsimp only
            have hq : ∀ z ∈ a.toList.take u, Le κ z q := fun z hz => by
              obtain ⟨t, t1, t2, t3⟩ := mem_take_at hz
              show κ.kle _ _
              rw [← kf_at eq, ← kf_at t3]
              have := beyF_t (hu2 t t1)
              rw [Nat.zero_add] at this
              exact this
            have m1 := at3.mg.takeA T.sa hu1 (fun z hz y hy => by
              obtain ⟨t, t1, t2, t3, t4⟩ := mem_part_at hy
              obtain ⟨v, v1, v2, v3⟩ := mem_take_at hz
              show κ.kle _ _
              rw [← kf_at t4, ← kf_at v3]
              have := beyF_f (hu3 t t1 (by omega))
              rw [Nat.zero_add] at this
              exact KeyOrd.kle_trans (T.sb.at (show v ≤ j - 1 by omega) (by omega)) (KeyOrd.kle_of_klt this))
            by_cases hk0 : i - u > 0
            · rw [if_pos hk0]
              have m2 : Mh κ a.toList b.toList u j (o ++ (a.extract u i).reverse).toList.reverse := by
                rw [Array.toList_append, Array.toList_reverse, List.reverse_append, List.reverse_reverse, ext_part]; exact m1
              by_cases c4 : u = 0
              · rw [if_pos (by simpa using c4)]
                exact wpS_pure ⟨ss4, .inl ⟨_, rfl, T.hiA m2 (.inl c4)⟩⟩
              rw [if_neg (by simpa using c4)]
              have hi1 : 1 ≤ u := by omega
              have hi2 : u ≤ a.size := by omega
              have hn1 : x + 2 + y + u + j ≤ a.size + b.size := by omega
              clear c4 hu2 hu3 hk0 m1
              generalize o ++ (a.extract u i).reverse = o1 at m2 ⊢
              refine wpS_bind (wpS_elem eq ?_)
              have m3 := m2.takeB T.sb (u := j - 1) (by omega) (fun z hz y hy => by
                rw [lastOne (by omega) eq] at hy
                have ey : y = q := by simpa using hy
                subst ey
                exact hq z hz)
              rw [lastOne (by omega) eq] at m3
              have m4 : Mh κ a.toList b.toList u (j - 1) (o1.push q).toList.reverse := by rw [Array.toList_push, List.reverse_append]; exact m3
              by_cases c6 : j - 1 = 1
              · rw [if_pos (by simpa using c6)]
                exact wpS_pure ⟨ss4, .inl ⟨_, rfl, T.hiB m4 c6⟩⟩
              rw [if_neg (by simpa using c6)]
              obtain ⟨p, ep, kp⟩ := keysAt T.ka (show u - 1 < a.size by omega)
              refine wpS_bind (wpS_elem ep (wpS_bind (wpS_gallop hO (ss4.1.trans hk) kp T.kb (base := 0) (by omega) (by omega) (monoT T.sb (by omega)) fun v hv1 hv2 hv3 => ?_)))
              dsimp only
              have hp : ∀ z ∈ b.toList.take v, Le κ z p := fun z hz => by
                obtain ⟨t, t1, t2, t3⟩ := mem_take_at hz
                show κ.kle _ _
                rw [← kf_at ep, ← kf_at t3]
                have := beyT_t (hv2 t t1)
                rw [Nat.zero_add] at this
                exact KeyOrd.kle_of_klt this
              have m5 := m4.takeB T.sb hv1 (fun z hz y hy => by
                obtain ⟨t, t1, t2, t3, t4⟩ := mem_part_at hy
                obtain ⟨r, r1, r2, r3⟩ := mem_take_at hz
                show κ.kle _ _
                rw [← kf_at t4, ← kf_at r3]
                have := beyT_f (hv3 t t1 (by omega))
                rw [Nat.zero_add] at this
                exact KeyOrd.kle_trans (T.sa.at (show r ≤ u - 1 by omega) (by omega)) this)
              by_cases hl0 : j - 1 - v > 0
              · rw [if_pos hl0]
                have m6 : Mh κ a.toList b.toList u v (o1.push q ++ (b.extract v (j - 1)).reverse).toList.reverse := by
                  rw [Array.toList_append, Array.toList_reverse, List.reverse_append, List.reverse_reverse, ext_part]; exact m5
                by_cases c7 : v = 1
                · rw [if_pos (by simpa using c7)]
                  exact wpS_pure ⟨ss4, .inl ⟨_, rfl, T.hiB m6 c7⟩⟩
                rw [if_neg (by simpa using c7)]
                by_cases c8 : v = 0
                · rw [if_pos (by simpa using c8)]
                  exact wpS_pure ⟨ss4, .inl ⟨_, rfl, T.hiA m6 (.inr c8)⟩⟩
                rw [if_neg (by simpa using c8)]
                have hj1 : 2 ≤ v := by omega
                have hj2 : v ≤ b.size := by omega
                have hn2 : x + 2 + y + 1 + u + v ≤ a.size + b.size := by omega
                clear c7 c8 hv2 hv3 hl0 m5
                generalize o1.push q ++ (b.extract v (j - 1)).reverse = o2 at m6 ⊢
                refine wpS_bind (wpS_elem ep ?_)
                have m7 := m6.takeA T.sa (u := u - 1) (by omega) (fun z hz y hy => by
                  rw [lastOne (by omega) ep] at hy
                  have ey : y = p := by simpa using hy
                  subst ey
                  exact hp z hz)
                rw [lastOne (by omega) ep] at m7
                have m8 : Mh κ a.toList b.toList (u - 1) v (o2.push p).toList.reverse := by rw [Array.toList_push, List.reverse_append]; exact m7
                by_cases c9 : u - 1 = 0
                · rw [if_pos (by simpa using c9)]
                  exact wpS_pure ⟨ss4, .inl ⟨_, rfl, T.hiA m8 (.inl c9)⟩⟩
                rw [if_neg (by simpa using c9)]
                split
                · exact wpS_pure ⟨ss4, .inr ⟨rfl, (show Ah κ a b (x + 2) (u - 1) v (o2.push p) from ⟨m8, by omega, hj1, by omega, hj2, by omega⟩)⟩⟩
                · exact wpS_pure ⟨ss4, rfl, (show Ah κ a b (x + 2 + (y + 1)) (u - 1) v (o2.push p) from ⟨m8, by omega, hj1, by omega, hj2, by omega⟩)⟩
              · rw [if_neg hl0]
                have el : v = j - 1 := by omega
                subst el
                have m6 : Mh κ a.toList b.toList u (j - 1) (o1.push q).toList.reverse := m4
                have hj1 : 2 ≤ j - 1 := by omega
                have hj2 : j - 1 ≤ b.size := by omega
                have hn2 : x + 2 + y + 1 + u + (j - 1) ≤ a.size + b.size := by omega
                clear hv2 hv3 hl0 m5
                generalize o1.push q = o2 at m6 ⊢
                generalize j - 1 = v at m6 hp hj1 hj2 hn2 ⊢
                refine wpS_bind (wpS_elem ep ?_)
                have m7 := m6.takeA T.sa (u := u - 1) (by omega) (fun z hz y hy => by
                  rw [lastOne (by omega) ep] at hy
                  have ey : y = p := by simpa using hy
                  subst ey
                  exact hp z hz)
                rw [lastOne (by omega) ep] at m7
                have m8 : Mh κ a.toList b.toList (u - 1) v (o2.push p).toList.reverse := by rw [Array.toList_push, List.reverse_append]; exact m7
                by_cases c9 : u - 1 = 0
                · rw [if_pos (by simpa using c9)]
                  exact wpS_pure ⟨ss4, .inl ⟨_, rfl, T.hiA m8 (.inl c9)⟩⟩
                rw [if_neg (by simpa using c9)]
                split
                · exact wpS_pure ⟨ss4, .inr ⟨rfl, (show Ah κ a b (x + 2) (u - 1) v (o2.push p) from ⟨m8, by omega, hj1, by omega, hj2, by omega⟩)⟩⟩
                · exact wpS_pure ⟨ss4, rfl, (show Ah κ a b (x + 2 + (y + 1)) (u - 1) v (o2.push p) from ⟨m8, by omega, hj1, by omega, hj2, by omega⟩)⟩
            · rw [if_neg hk0]
              have ek : u = i := by omega
              subst ek
              have m2 : Mh κ a.toList b.toList u j o.toList.reverse := at3.mg
              have hi1 : 1 ≤ u := hhi
              have hi2 : u ≤ a.size := hla
              have hn1 : x + 2 + y + u + j ≤ a.size + b.size := by omega
              clear hu2 hu3 hk0 m1
              generalize o = o1 at m2 ⊢
              refine wpS_bind (wpS_elem eq ?_)
              have m3 := m2.takeB T.sb (u := j - 1) (by omega) (fun z hz y hy => by
                rw [lastOne (by omega) eq] at hy
                have ey : y = q := by simpa using hy
                subst ey
                exact hq z hz)
              rw [lastOne (by omega) eq] at m3
              have m4 : Mh κ a.toList b.toList u (j - 1) (o1.push q).toList.reverse := by rw [Array.toList_push, List.reverse_append]; exact m3
              by_cases c6 : j - 1 = 1
              · rw [if_pos (by simpa using c6)]
                exact wpS_pure ⟨ss4, .inl ⟨_, rfl, T.hiB m4 c6⟩⟩
              rw [if_neg (by simpa using c6)]
              obtain ⟨p, ep, kp⟩ := keysAt T.ka (show u - 1 < a.size by omega)
              refine wpS_bind (wpS_elem ep (wpS_bind (wpS_gallop hO (ss4.1.trans hk) kp T.kb (base := 0) (by omega) (by omega) (monoT T.sb (by omega)) fun v hv1 hv2 hv3 => ?_)))
              dsimp only
              have hp : ∀ z ∈ b.toList.take v, Le κ z p := fun z hz => by
                obtain ⟨t, t1, t2, t3⟩ := mem_take_at hz
                show κ.kle _ _
                rw [← kf_at ep, ← kf_at t3]
                have := beyT_t (hv2 t t1)
                rw [Nat.zero_add] at this
                exact KeyOrd.kle_of_klt this
              have m5 := m4.takeB T.sb hv1 (fun z hz y hy => by
                obtain ⟨t, t1, t2, t3, t4⟩ := mem_part_at hy
                obtain ⟨r, r1, r2, r3⟩ := mem_take_at hz
                show κ.kle _ _
                rw [← kf_at t4, ← kf_at r3]
                have := beyT_f (hv3 t t1 (by omega))
                rw [Nat.zero_add] at this
                exact KeyOrd.kle_trans (T.sa.at (show r ≤ u - 1 by omega) (by omega)) this)
              by_cases hl0 : j - 1 - v > 0
              · rw [if_pos hl0]
                have m6 : Mh κ a.toList b.toList u v (o1.push q ++ (b.extract v (j - 1)).reverse).toList.reverse := by
                  rw [Array.toList_append, Array.toList_reverse, List.reverse_append, List.reverse_reverse, ext_part]; exact m5
                by_cases c7 : v = 1
                · rw [if_pos (by simpa using c7)]
                  exact wpS_pure ⟨ss4, .inl ⟨_, rfl, T.hiB m6 c7⟩⟩
                rw [if_neg (by simpa using c7)]
                by_cases c8 : v = 0
                · rw [if_pos (by simpa using c8)]
                  exact wpS_pure ⟨ss4, .inl ⟨_, rfl, T.hiA m6 (.inr c8)⟩⟩
                rw [if_neg (by simpa using c8)]
                have hj1 : 2 ≤ v := by omega
                have hj2 : v ≤ b.size := by omega
                have hn2 : x + 2 + y + 1 + u + v ≤ a.size + b.size := by omega
                clear c7 c8 hv2 hv3 hl0 m5
                generalize o1.push q ++ (b.extract v (j - 1)).reverse = o2 at m6 ⊢
                refine wpS_bind (wpS_elem ep ?_)
                have m7 := m6.takeA T.sa (u := u - 1) (by omega) (fun z hz y hy => by
                  rw [lastOne (by omega) ep] at hy
                  have ey : y = p := by simpa using hy
                  subst ey
                  exact hp z hz)
                rw [lastOne (by omega) ep] at m7
                have m8 : Mh κ a.toList b.toList (u - 1) v (o2.push p).toList.reverse := by rw [Array.toList_push, List.reverse_append]; exact m7
                by_cases c9 : u - 1 = 0
                · rw [if_pos (by simpa using c9)]
                  exact wpS_pure ⟨ss4, .inl ⟨_, rfl, T.hiA m8 (.inl c9)⟩⟩
                rw [if_neg (by simpa using c9)]
                split
                · exact wpS_pure ⟨ss4, .inr ⟨rfl, (show Ah κ a b (x + 2) (u - 1) v (o2.push p) from ⟨m8, by omega, hj1, by omega, hj2, by omega⟩)⟩⟩
                · exact wpS_pure ⟨ss4, rfl, (show Ah κ a b (x + 2 + (y + 1)) (u - 1) v (o2.push p) from ⟨m8, by omega, hj1, by omega, hj2, by omega⟩)⟩
              · rw [if_neg hl0]
                have el : v = j - 1 := by omega
                subst el
                have m6 : Mh κ a.toList b.toList u (j - 1) (o1.push q).toList.reverse := m4
                have hj1 : 2 ≤ j - 1 := by omega
                have hj2 : j - 1 ≤ b.size := by omega
                have hn2 : x + 2 + y + 1 + u + (j - 1) ≤ a.size + b.size := by omega
                clear hv2 hv3 hl0 m5
                generalize o1.push q = o2 at m6 ⊢
                generalize j - 1 = v at m6 hp hj1 hj2 hn2 ⊢
                refine wpS_bind (wpS_elem ep ?_)
                have m7 := m6.takeA T.sa (u := u - 1) (by omega) (fun z hz y hy => by
                  rw [lastOne (by omega) ep] at hy
                  have ey : y = p := by simpa using hy
                  subst ey
                  exact hp z hz)
                rw [lastOne (by omega) ep] at m7
                have m8 : Mh κ a.toList b.toList (u - 1) v (o2.push p).toList.reverse := by rw [Array.toList_push, List.reverse_append]; exact m7
                by_cases c9 : u - 1 = 0
                · rw [if_pos (by simpa using c9)]
                  exact wpS_pure ⟨ss4, .inl ⟨_, rfl, T.hiA m8 (.inl c9)⟩⟩
                rw [if_neg (by simpa using c9)]
                split
                · exact wpS_pure ⟨ss4, .inr ⟨rfl, (show Ah κ a b (x + 2) (u - 1) v (o2.push p) from ⟨m8, by omega, hj1, by omega, hj2, by omega⟩)⟩⟩
                · exact wpS_pure ⟨ss4, rfl, (show Ah κ a b (x + 2 + (y + 1)) (u - 1) v (o2.push p) from ⟨m8, by omega, hj1, by omega, hj2, by omega⟩)⟩
end
end L2S
/-! Lists of any length sorted: two runs made one. -/
namespace L2S
set_option autoImplicit false
open PySem PyProof.Rows

def putAt (a : Array Keyed) (u : Nat) (m : Array Keyed) : Array Keyed := m.toList.zipIdx.foldl (fun t (p, j) => t.setIfInBounds (u + j) p) a
theorem mergeAt'_eq (i : Nat) : mergeAt' i = (do
  let z ← get
  let (some (u, n, pw), some (v, m, _)) := ((pendingOf z)[i]?, (pendingOf z)[i + 1]?) | unsupported "internal:list.sort.pending"
  set (setPending z (((pendingOf z).setIfInBounds i (u, n + m, pw)).eraseIdxIfInBounds (i + 1)))
  let some k ← gallop' false (← elem' (arrOf z) v) (arrOf z) u n 0 | return false
  let (u, n) := (u + k, n - k)
  if n == 0 then return true
  let some m ← gallop' true (← elem' (arrOf z) (u + n - 1)) (arrOf z) v m (m - 1) | return false
  if m == 0 then return true
  let x := (arrOf z).extract u v
  let y := (arrOf z).extract v (v + m)
  let r ← if n ≤ m then mergeLo' x y else mergeHi' x y
  modify fun q => setArr q (putAt (arrOf q) u r)
  return (failedOf (← get)).isNone) := rfl

theorem wpS_set {M : Model} {A : Around} {E : Value → Shared → Prop} {s : Shared} {x st : SortSt} {Q : PUnit → SortSt → Prop} (h : Q ⟨⟩ x) : wpS M A E s (set x : StateT SortSt Sem PUnit) Q st := by
  unfold wpS
  rw [StateT.run_set]
  exact wpAny_pure ⟨rfl, h⟩
/-- n places from u on -/
def seg (l : List Keyed) (u n : Nat) : List Keyed := (l.drop u).take n
theorem seg_len {l : List Keyed} {u n : Nat} (h : u + n ≤ l.length) : (seg l u n).length = n := by
  unfold seg
  rw [List.length_take, List.length_drop]
  omega
theorem seg_add (l : List Keyed) (u n m : Nat) : seg l u (n + m) = seg l u n ++ seg l (u + n) m := by
  unfold seg
  rw [List.take_add, List.drop_drop]
theorem split3 (l : List Keyed) (u n : Nat) : l = l.take u ++ seg l u n ++ l.drop (u + n) := by
  unfold seg
  rw [List.append_assoc, ← List.drop_drop, List.take_append_drop, List.take_append_drop]
theorem fold_put (u : Nat) : ∀ (l : List Keyed) (k : Nat) (a : Array Keyed), u + k + l.length ≤ a.size → ((l.zipIdx k).foldl (fun t (p, j) => t.setIfInBounds (u + j) p) a).toList = a.toList.take (u + k) ++ l ++ a.toList.drop (u + k + l.length)
  | [], k, a, h => by simp
  | p :: l, k, a, h => by
    rw [List.zipIdx_cons, List.foldl_cons]
    have hl : a.toList.length = a.size := rfl
    rw [List.length_cons] at h
    rw [fold_put u l (k + 1) (a.setIfInBounds (u + k) p) (by rw [Array.size_setIfInBounds]; omega)]
    rw [Array.toList_setIfInBounds, List.length_cons]
    have e1 : (a.toList.set (u + k) p).take (u + (k + 1)) = a.toList.take (u + k) ++ [p] := by
      rw [show u + (k + 1) = u + k + 1 by omega, List.take_succ_eq_append_getElem (by rw [List.length_set]; omega), List.getElem_set_self, List.take_set_of_le (by omega)]
    have e2 : (a.toList.set (u + k) p).drop (u + (k + 1) + l.length) = a.toList.drop (u + k + (l.length + 1)) := by
      rw [List.drop_set_of_lt (by omega)]
      congr 1
      omega
    rw [e1, e2]
    simp
theorem putAt_list (a : Array Keyed) (u : Nat) (m : Array Keyed) (h : u + m.size ≤ a.size) : (putAt a u m).toList = a.toList.take u ++ m.toList ++ a.toList.drop (u + m.size) := by
  unfold putAt
  have := fold_put u m.toList 0 a (by rw [Nat.add_zero]; exact h)
  rw [Nat.add_zero] at this
  exact this
/-- a state in which nothing failed, over the items a₀ -/
structure SG (a₀ : Array Keyed) (st : SortSt) : Prop where
  perm : (arrOf st).Perm a₀
  kind : kindOf st = oneType'
  failed : failedOf st = none
theorem SG.size {a₀ : Array Keyed} {st : SortSt} (h : SG a₀ st) : (arrOf st).size = a₀.size := h.perm.size_eq
theorem SG.keys {κ : KeyKind} {a₀ : Array Keyed} {st : SortSt} (h : SG a₀ st) (h0 : KeysOf κ a₀) : KeysOf κ (arrOf st) := fun p hp => h0 p ((Array.perm_iff_toList_perm.mp h.perm).mem_iff.mp hp)
theorem KeysOf.ext {κ : KeyKind} {a : Array Keyed} (h : KeysOf κ a) (i j : Nat) : KeysOf κ (a.extract i j) := fun p hp => h p (by
  rw [ext_part] at hp
  exact List.mem_of_mem_drop (List.mem_of_mem_take hp))
theorem seg_at {κ : KeyKind} {a : Array Keyed} {u n : Nat} (h : Srt κ (seg a.toList u n)) (hn : u + n ≤ a.size) {i j : Nat} (hu : u ≤ i) (hij : i ≤ j) (hj : j < u + n) : κ.kle (KK κ a i) (KK κ a j) := by
  by_cases e : i = j
  · subst e; exact KeyOrd.kle_refl _
  · have hl : a.toList.length = a.size := rfl
    have hlen := seg_len (l := a.toList) (u := u) (n := n) (by omega)
    have hp := List.pairwise_iff_getElem.mp h (i - u) (j - u) (by omega) (by omega) (by omega)
    unfold seg at hp
    rw [List.getElem_take, List.getElem_take, List.getElem_drop, List.getElem_drop] at hp
    have e1 : a[i]? = some (a.toList[u + (i - u)]'(by omega)) := by
      rw [Array.getElem?_eq_some_iff]; exact ⟨by omega, by simp [show u + (i - u) = i by omega]⟩
    have e2 : a[j]? = some (a.toList[u + (j - u)]'(by omega)) := by
      rw [Array.getElem?_eq_some_iff]; exact ⟨by omega, by simp [show u + (j - u) = j by omega]⟩
    rw [kf_at e1, kf_at e2]
    exact hp
theorem srt_of_at {κ : KeyKind} {a : Array Keyed} {u n : Nat} (hn : u + n ≤ a.size) (h : ∀ i j, u ≤ i → i ≤ j → j < u + n → κ.kle (KK κ a i) (KK κ a j)) : Srt κ (seg a.toList u n) := by
  have hl : a.toList.length = a.size := rfl
  unfold seg Srt
  refine List.pairwise_iff_getElem.mpr fun i j hi hj hij => ?_
  rw [List.length_take, List.length_drop] at hi hj
  rw [List.getElem_take, List.getElem_take, List.getElem_drop, List.getElem_drop]
  have e1 : a[u + i]? = some (a.toList[u + i]'(by omega)) := by rw [Array.getElem?_eq_some_iff]; exact ⟨by omega, by simp⟩
  have e2 : a[u + j]? = some (a.toList[u + j]'(by omega)) := by rw [Array.getElem?_eq_some_iff]; exact ⟨by omega, by simp⟩
  show κ.kle _ _
  rw [← kf_at e1, ← kf_at e2]
  exact h _ _ (by omega) (by omega) (by omega)
theorem mem_seg_at {a : Array Keyed} {u n : Nat} {y : Keyed} (h : y ∈ seg a.toList u n) : ∃ j, u ≤ j ∧ j < u + n ∧ j < a.size ∧ a[j]? = some y := mem_part_at h
/-- two runs side by side made one -/
structure Joined (κ : KeyKind) (a r : Array Keyed) (u n : Nat) : Prop where
  perm : r.Perm a
  srt : Srt κ (seg r.toList u n)
  ahead : r.toList.take u = a.toList.take u
  behind : r.toList.drop (u + n) = a.toList.drop (u + n)
section
variable {prog : Program} {w : World} {A : Around} {E : Value → Shared → Prop} {s : Shared} {κ : KeyKind} {a₀ : Array Keyed}
theorem join_same {a : Array Keyed} {u n m : Nat} (hs : u + n + m ≤ a.size) (h1 : Srt κ (seg a.toList u n)) (h2 : Srt κ (seg a.toList (u + n) m)) (h : ∀ x ∈ seg a.toList u n, ∀ y ∈ seg a.toList (u + n) m, Le κ x y) : Joined κ a a u (n + m) :=
  ⟨Array.Perm.refl _, by rw [seg_add]; exact List.pairwise_append.mpr ⟨h1, h2, h⟩, rfl, rfl⟩
/-- the middle of two runs merged -/
theorem join_put {a r : Array Keyed} {u n m k l : Nat} (hs : u + n + m ≤ a.size) (h1 : Srt κ (seg a.toList u n)) (h2 : Srt κ (seg a.toList (u + n) m)) (hk : k ≤ n) (hl : l ≤ m)
    (hr : Merged κ (a.extract (u + k) (u + n)) (a.extract (u + n) (u + n + l)) r)
    (hx : ∀ x ∈ seg a.toList u k, ∀ y ∈ seg a.toList (u + n) m, Le κ x y) (hy : ∀ x ∈ seg a.toList u n, ∀ y ∈ seg a.toList (u + n + l) (m - l), Le κ x y) : Joined κ a (putAt a (u + k) r) u (n + m) := by
  obtain ⟨r1, r2⟩ := hr
  rw [ext_part, ext_part] at r2
  have hal : a.toList.length = a.size := rfl
  have e1 : (a.toList.drop (u + k)).take (u + n - (u + k)) = seg a.toList (u + k) (n - k) := by unfold seg; congr 1; omega
  have e2 : (a.toList.drop (u + n)).take (u + n + l - (u + n)) = seg a.toList (u + n) l := by unfold seg; congr 1; omega
  rw [e1, e2] at r2
  have rl : r.size = n - k + l := by
    have := r2.length_eq
    rw [List.length_append, seg_len (by omega), seg_len (by omega)] at this
    simpa using this
  have pl := putAt_list a (u + k) r (by omega)
  have t1 : a.toList.take (u + k) = a.toList.take u ++ seg a.toList u k := List.take_add
  have t2 : a.toList.drop (u + k + r.size) = seg a.toList (u + n + l) (m - l) ++ a.toList.drop (u + n + m) := by
    have : a.toList.drop (u + n + m) = (a.toList.drop (u + n + l)).drop (m - l) := by rw [List.drop_drop]; congr 1; omega
    unfold seg
    rw [this, List.take_append_drop]
    congr 1
    omega
  rw [t1, t2] at pl
  have ul : (a.toList.take u).length = u := by rw [List.length_take]; omega
  have kl : (seg a.toList u k).length = k := seg_len (by omega)
  have ml : (seg a.toList (u + n + l) (m - l)).length = m - l := seg_len (by omega)
  have rl' : r.toList.length = n - k + l := by simpa using rl
  have mid : seg (putAt a (u + k) r).toList u (n + m) = seg a.toList u k ++ r.toList ++ seg a.toList (u + n + l) (m - l) := by
    unfold seg at *
    rw [pl]
    simp only [List.append_assoc]
    rw [List.drop_append_of_le_length (by omega), List.drop_of_length_le (by omega), List.nil_append]
    rw [← List.append_assoc, ← List.append_assoc, ← List.append_assoc]
    rw [List.take_append_of_le_length (by simp only [List.length_append]; omega)]
    rw [List.take_of_length_le (by simp only [List.length_append]; omega)]
  have s1 : seg a.toList u n = seg a.toList u k ++ seg a.toList (u + k) (n - k) := by
    have := seg_add a.toList u k (n - k)
    rw [show k + (n - k) = n by omega] at this
    exact this
  have s2 : seg a.toList (u + n) m = seg a.toList (u + n) l ++ seg a.toList (u + n + l) (m - l) := by
    have := seg_add a.toList (u + n) l (m - l)
    rw [show l + (m - l) = m by omega] at this
    exact this
  have p1 := h1
  rw [s1] at p1
  obtain ⟨p11, p12, p13⟩ := List.pairwise_append.mp p1
  have p2 := h2
  rw [s2] at p2
  obtain ⟨p21, p22, p23⟩ := List.pairwise_append.mp p2
  refine ⟨?_, ?_, ?_, ?_⟩
  · refine Array.perm_iff_toList_perm.mpr ?_
    rw [pl]
    have ea : a.toList = a.toList.take u ++ (seg a.toList u k ++ (seg a.toList (u + k) (n - k) ++ (seg a.toList (u + n) l ++ (seg a.toList (u + n + l) (m - l) ++ a.toList.drop (u + n + m))))) := by
      have z := split3 a.toList u (n + m)
      rw [seg_add, s1, s2, show u + (n + m) = u + n + m by omega] at z
      simp only [List.append_assoc] at z
      exact z
    simp only [List.append_assoc]
    conv => rhs; rw [ea]
    refine List.Perm.append_left _ (List.Perm.append_left _ ?_)
    rw [← List.append_assoc (seg a.toList (u + k) (n - k))]
    exact List.Perm.append_right _ r2
  · rw [mid]
    refine List.pairwise_append.mpr ⟨List.pairwise_append.mpr ⟨p11, r1, fun x hx1 y hy1 => ?_⟩, p22, fun x hx1 y hy1 => ?_⟩
    · rcases List.mem_append.mp (r2.mem_iff.mp hy1) with z | z
      · exact p13 x hx1 y z
      · exact hx x hx1 y (by rw [s2]; exact List.mem_append_left _ z)
    · rcases List.mem_append.mp hx1 with z | z
      · exact hy x (by rw [s1]; exact List.mem_append_left _ z) y hy1
      · rcases List.mem_append.mp (r2.mem_iff.mp z) with q | q
        · exact hy x (by rw [s1]; exact List.mem_append_right _ q) y hy1
        · exact p23 x q y hy1
  · rw [pl]
    simp only [List.append_assoc]
    rw [List.take_append_of_le_length (by omega), List.take_of_length_le (by omega)]
  · rw [pl]
    have : u + (n + m) = (a.toList.take u ++ seg a.toList u k ++ r.toList ++ seg a.toList (u + n + l) (m - l)).length := by
      simp only [List.length_append]; omega
    rw [← List.append_assoc, this, List.drop_left']
    · congr 1; simp only [List.length_append]; omega
    · rfl
theorem wpS_mergeAt (hO : κ.OneLt) (h0 : KeysOf κ a₀) {st : SortSt} (hB : SG a₀ st) {i u n m pw pw2 : Nat} (hp1 : (pendingOf st)[i]? = some (u, n, pw)) (hp2 : (pendingOf st)[i + 1]? = some (u + n, m, pw2)) (hn : 1 ≤ n) (hm : 1 ≤ m) (hs : u + n + m ≤ a₀.size)
    (h1 : Srt κ (seg (arrOf st).toList u n)) (h2 : Srt κ (seg (arrOf st).toList (u + n) m)) {Q : Bool → SortSt → Prop}
    (h : ∀ st', SG a₀ st' → pendingOf st' = ((pendingOf st).setIfInBounds i (u, n + m, pw)).eraseIdxIfInBounds (i + 1) → Joined κ (arrOf st) (arrOf st') u (n + m) → Q true st') : wpS (model prog w) A E s (mergeAt' i) Q st := by
  have hsz := hB.size
  have hK := hB.keys h0
  rw [mergeAt'_eq]
  refine wpS_bind (wpS_get ?_)
  dsimp only
  rw [hp1, hp2]
  dsimp only
  refine wpS_bind ?_
  refine wpS_set ?_
  have SB : SG a₀ (setPending st (((pendingOf st).setIfInBounds i (u, n + m, pw)).eraseIdxIfInBounds (i + 1))) := ⟨hB.perm, hB.kind, hB.failed⟩
  generalize hq : setPending st (((pendingOf st).setIfInBounds i (u, n + m, pw)).eraseIdxIfInBounds (i + 1)) = st1 at SB ⊢
  have ea : arrOf st1 = arrOf st := by rw [← hq]
  have ep : pendingOf st1 = ((pendingOf st).setIfInBounds i (u, n + m, pw)).eraseIdxIfInBounds (i + 1) := by rw [← hq]
  obtain ⟨q, eq, kq⟩ := keysAt hK (show u + n < (arrOf st).size by omega)
  have at1 : ∀ {x y : Nat}, u ≤ x → x ≤ y → y < u + n → κ.kle (KK κ (arrOf st) x) (KK κ (arrOf st) y) := fun a b c => seg_at h1 (by omega) a b c
  have at2 : ∀ {x y : Nat}, u + n ≤ x → x ≤ y → y < u + n + m → κ.kle (KK κ (arrOf st) x) (KK κ (arrOf st) y) := fun a b c => seg_at h2 (by omega) a b c
  refine wpS_bind (wpS_elem eq (wpS_bind (wpS_gallop hO SB.kind kq hK (by omega) (by omega) (fun x y hxy hy hb => ?_) fun k hk1 hk2 hk3 => ?_)))
  · have h3 : κ.kle (KK κ (arrOf st) (u + x)) (KK κ (arrOf st) (u + n)) := KeyOrd.kle_trans (at1 (by omega) (by omega) (by omega)) (beyF_t hb)
    have h4 : κ.blt (KK κ (arrOf st) (u + n)) (KK κ (arrOf st) (u + x)) = false := h3
    show (!κ.blt (KK κ (arrOf st) (u + n)) (KK κ (arrOf st) (u + x))) = true
    rw [h4]; rfl
  dsimp only
  have hx : ∀ x ∈ seg (arrOf st).toList u k, ∀ y ∈ seg (arrOf st).toList (u + n) m, Le κ x y := fun x hx y hy => by
    obtain ⟨t, t1, t2, t3, t4⟩ := mem_seg_at hx
    obtain ⟨v, v1, v2, v3, v4⟩ := mem_seg_at hy
    show κ.kle _ _
    rw [← kf_at t4, ← kf_at v4]
    have := beyF_t (hk2 (t - u) (by omega))
    rw [show u + (t - u) = t by omega] at this
    exact KeyOrd.kle_trans this (at2 (by omega) v1 v2)
  by_cases c1 : n - k = 0
  · rw [if_pos (by simpa using c1)]
    have ek : k = n := by omega
    subst ek
    refine wpS_pure (h st1 SB ep ?_)
    rw [ea]
    exact join_same (by omega) h1 h2 hx
  rw [if_neg (by simpa using c1)]
  have e5 : u + k + (n - k) - 1 = u + n - 1 := by omega
  rw [e5]
  obtain ⟨p, epp, kp⟩ := keysAt hK (show u + n - 1 < (arrOf st).size by omega)
  refine wpS_bind (wpS_elem epp (wpS_bind (wpS_gallop hO SB.kind kp hK (by omega) (by omega) (fun x y hxy hy hb => ?_) fun l hl1 hl2 hl3 => ?_)))
  · exact KeyOrd.klt_of_kle_of_klt (at2 (show u + n ≤ u + n + x by omega) (by omega) (show u + n + y < u + n + m by omega)) (beyT_t hb)
  dsimp only
  have hy : ∀ x ∈ seg (arrOf st).toList u n, ∀ y ∈ seg (arrOf st).toList (u + n + l) (m - l), Le κ x y := fun x hx y hy => by
    obtain ⟨t, t1, t2, t3, t4⟩ := mem_seg_at hx
    obtain ⟨v, v1, v2, v3, v4⟩ := mem_seg_at hy
    show κ.kle _ _
    rw [← kf_at t4, ← kf_at v4]
    have := beyT_f (hl3 (v - (u + n)) (by omega) (by omega))
    rw [show u + n + (v - (u + n)) = v by omega] at this
    exact KeyOrd.kle_trans (at1 t1 (show t ≤ u + n - 1 by omega) (by omega)) this
  by_cases c2 : l = 0
  · rw [if_pos (by simpa using c2)]
    subst c2
    rw [Nat.add_zero, Nat.sub_zero] at hy
    refine wpS_pure (h st1 SB ep ?_)
    rw [ea]
    exact join_same (by omega) h1 h2 hy
  rw [if_neg (by simpa using c2)]
  have eX : ((arrOf st).extract (u + k) (u + n)).toList = seg (arrOf st).toList (u + k) (n - k) := by rw [ext_part]; unfold seg; congr 1; omega
  have eY : ((arrOf st).extract (u + n) (u + n + l)).toList = seg (arrOf st).toList (u + n) l := by rw [ext_part]; unfold seg; congr 1; omega
  have lX : ((arrOf st).extract (u + k) (u + n)).size = n - k := by rw [Array.size_extract]; omega
  have lY : ((arrOf st).extract (u + n) (u + n + l)).size = l := by rw [Array.size_extract]; omega
  have T : Two κ ((arrOf st).extract (u + k) (u + n)) ((arrOf st).extract (u + n) (u + n + l)) := by
    refine ⟨KeysOf.ext hK _ _, KeysOf.ext hK _ _, ?_, ?_, by omega, by omega, fun x hx y hy => ?_, fun y hy z hz => ?_⟩
    · rw [eX]; exact srt_of_at (by omega) fun x y a b c => at1 (by omega) b (by omega)
    · rw [eY]; exact srt_of_at (by omega) fun x y a b c => at2 a b (by omega)
    · rw [eX] at hy
      obtain ⟨v, v1, v2, v3, v4⟩ := mem_seg_at hy
      have ex : (arrOf st)[u + n]? = some x := by
        rw [Array.getElem?_extract_of_lt (by omega)] at hx
        rw [Array.getElem?_eq_getElem (by omega)]
        exact hx
      show κ.kle _ _
      rw [← kf_at ex, ← kf_at v4]
      have := beyF_f (hk3 (v - u) (by omega) (by omega))
      rw [show u + (v - u) = v by omega] at this
      exact KeyOrd.kle_of_klt this
    · rw [eY] at hy
      rw [eX, lX] at hz
      obtain ⟨v, v1, v2, v3, v4⟩ := mem_seg_at hy
      have hz2 : z ∈ seg (arrOf st).toList (u + n - 1) 1 := by
        unfold seg at hz ⊢
        rw [List.drop_take, List.drop_drop] at hz
        rw [show u + k + (n - k - 1) = u + n - 1 by omega, show n - k - (n - k - 1) = 1 by omega] at hz
        exact hz
      obtain ⟨t, t1, t2, t3, t4⟩ := mem_seg_at hz2
      show κ.kle _ _
      rw [← kf_at t4, ← kf_at v4]
      have := beyT_t (hl2 (v - (u + n)) (by omega))
      rw [show u + n + (v - (u + n)) = v by omega, show u + n - 1 = t by omega] at this
      exact KeyOrd.kle_of_klt this
  have fin : ∀ r st2, SameS st1 st2 → Merged κ ((arrOf st).extract (u + k) (u + n)) ((arrOf st).extract (u + n) (u + n + l)) r →
      Q true (setArr st2 (putAt (arrOf st2) (u + k) r)) ∧ failedOf st2 = none := fun r st2 ss mr => by
    have J := join_put (by omega) h1 h2 hk1 hl1 mr hx hy
    have e2 : arrOf st2 = arrOf st := ss.2.1.trans ea
    refine ⟨h _ ⟨?_, ss.1.trans SB.kind, ss.2.2.2.trans SB.failed⟩ (ss.2.2.1.trans ep) ?_, ss.2.2.2.trans SB.failed⟩
    · show (putAt (arrOf st2) (u + k) r).Perm a₀
      rw [e2]
      exact J.perm.trans hB.perm
    · show Joined κ (arrOf st) (putAt (arrOf st2) (u + k) r) u (n + m)
      rw [e2]
      exact J
  have post : ∀ r st2, SameS st1 st2 → Merged κ ((arrOf st).extract (u + k) (u + n)) ((arrOf st).extract (u + n) (u + n + l)) r →
      wpS (model prog w) A E s (do modify fun q => setArr q (putAt (arrOf q) (u + k) r); return (failedOf (← get)).isNone) Q st2 := fun r st2 ss mr => by
    obtain ⟨f1, f2⟩ := fin r st2 ss mr
    refine wpS_bind (wpS_modify (wpS_bind (wpS_get (wpS_pure ?_))))
    show Q (failedOf st2).isNone _
    rw [f2]
    exact f1
  by_cases c3 : n - k ≤ l
  · rw [if_pos c3]
    exact wpS_bind (wpS_mergeLo hO SB.kind T fun r st2 ss mr => post r st2 ss mr)
  · rw [if_neg c3]
    exact wpS_bind (wpS_mergeHi hO SB.kind T fun r st2 ss mr => post r st2 ss mr)
end
end L2S
/-! Lists of any length sorted: a run counted, a run made longer, from any place on. -/
namespace L2S
set_option autoImplicit false
open PySem PyProof.Rows

/-- rising, falling from u on, n places -/
def Up (κ : KeyKind) (a : Array Keyed) (u n : Nat) : Prop := ∀ i j, u ≤ i → i ≤ j → j < u + n → κ.kle (KK κ a i) (KK κ a j)
def Dn (κ : KeyKind) (a : Array Keyed) (u n : Nat) : Prop := ∀ i j, u ≤ i → i ≤ j → j < u + n → κ.kle (KK κ a j) (KK κ a i)
/-- from st to st': the same items, nothing ahead of u touched -/
structure Fx (a₀ : Array Keyed) (u : Nat) (st st' : SortSt) : Prop where
  sg : SG a₀ st'
  pend : pendingOf st' = pendingOf st
  fix : ∀ i, i < u → (arrOf st')[i]? = (arrOf st)[i]?
section
variable {prog : Program} {w : World} {A : Around} {E : Value → Shared → Prop} {s : Shared} {κ : KeyKind} {a₀ : Array Keyed}
theorem wpS_ltG (hO : κ.OneLt) (h0 : KeysOf κ a₀) {st : SortSt} (hB : SG a₀ st) {i j : Nat} (hi : i < a₀.size) (hj : j < a₀.size) {Q : Option Bool → SortSt → Prop} (h : Q (some (κ.blt (KK κ (arrOf st) i) (KK κ (arrOf st) j))) st) : wpS (model prog w) A E s (ltAt' i j) Q st := by
  have hs := hB.size
  obtain ⟨p, e1, k1⟩ := keysAt (hB.keys h0) (show i < (arrOf st).size by omega)
  obtain ⟨q, e2, k2⟩ := keysAt (hB.keys h0) (show j < (arrOf st).size by omega)
  rw [ltAt'_eq]
  refine wpS_bind (wpS_get ?_)
  exact wpS_bind (wpS_elem e1 (wpS_bind (wpS_elem e2 (wpS_lt2 hO hB.kind k1 k2 h))))
theorem wpS_rev {st : SortSt} {u v : Nat} (hB : SG a₀ st) (hv : v ≤ a₀.size) {Q : Unit → SortSt → Prop}
    (h : ∀ st', SG a₀ st' → pendingOf st' = pendingOf st → (∀ i, (arrOf st')[i]? = if u ≤ i ∧ i < v then (arrOf st)[u + v - 1 - i]? else (arrOf st)[i]?) → Q () st') : wpS (model prog w) A E s (reverseSlice' u v) Q st := by
  rw [reverseSlice'_eq]
  refine wpS_modify (h _ ⟨(mirror_perm _ _ _ _).trans hB.perm, hB.kind, hB.failed⟩ rfl fun i => ?_)
  exact getElem?_mirror_all (by rw [hB.size]; exact hv) i
theorem KK_of {a b : Array Keyed} {i j : Nat} (h : a[i]? = b[j]?) : KK κ a i = KK κ b j := KK_congr h
theorem Up.snoc {a : Array Keyed} {u n : Nat} (h : Up κ a u n) (hn : 1 ≤ n) (hl : κ.kle (KK κ a (u + n - 1)) (KK κ a (u + n))) : Up κ a u (n + 1) := fun i j hu hij hj => by
  by_cases e : j < u + n
  · exact h i j hu hij e
  · have ej : j = u + n := by omega
    subst ej
    by_cases e2 : i = u + n
    · subst e2; exact KeyOrd.kle_refl _
    · exact KeyOrd.kle_trans (h i (u + n - 1) hu (by omega) (by omega)) hl
theorem Dn.snoc {a : Array Keyed} {u n : Nat} (h : Dn κ a u n) (hn : 1 ≤ n) (hl : κ.kle (KK κ a (u + n)) (KK κ a (u + n - 1))) : Dn κ a u (n + 1) := fun i j hu hij hj => by
  by_cases e : j < u + n
  · exact h i j hu hij e
  · have ej : j = u + n := by omega
    subst ej
    by_cases e2 : i = u + n
    · subst e2; exact KeyOrd.kle_refl _
    · exact KeyOrd.kle_trans hl (h i (u + n - 1) hu (by omega) (by omega))
theorem Up.one {a : Array Keyed} {u : Nat} : Up κ a u 1 := fun i j _ _ _ => by
  have : i = j := by omega
  subst this; exact KeyOrd.kle_refl _
theorem Dn.congr {a b : Array Keyed} {u n : Nat} (h : Dn κ a u n) (e : ∀ i, u ≤ i → i < u + n → KK κ b i = KK κ a i) : Dn κ b u n := fun i j hu hij hj => by
  rw [e i hu (by omega), e j (by omega) hj]; exact h i j hu hij hj
/-- reversing equal ones changes no key -/
theorem rev_equal {a b : Array Keyed} {u v : Nat} (e : ∀ i, b[i]? = if u ≤ i ∧ i < v then a[u + v - 1 - i]? else a[i]?) (h : ∀ i, u ≤ i → i < v → KK κ a i = KK κ a (v - 1)) (i : Nat) : KK κ b i = KK κ a i := by
  by_cases c : u ≤ i ∧ i < v
  · rw [KK_of ((e i).trans (if_pos c)), h _ (by omega) (by omega), h i c.1 c.2]
  · exact KK_of ((e i).trans (if_neg c))
theorem rev_fix {a b : Array Keyed} {u v l : Nat} (hl : l ≤ u) (e : ∀ i, b[i]? = if u ≤ i ∧ i < v then a[u + v - 1 - i]? else a[i]?) : ∀ i, i < l → b[i]? = a[i]? := fun i hi => (e i).trans (if_neg (by omega))

/-- the tail: reversed, then as far as it rises -/
theorem wpS_countRunG (hO : κ.OneLt) (h0 : KeysOf κ a₀) {st : SortSt} (hB : SG a₀ st) {lo nrem : Nat} (hn : lo + nrem ≤ a₀.size) (h1 : 1 ≤ nrem) {Q : Option Nat → SortSt → Prop}
    (h : ∀ m st', Fx a₀ lo st st' → 1 ≤ m → m ≤ nrem → Up κ (arrOf st') lo m → Q (some m) st') : wpS (model prog w) A E s (countRun' lo nrem) Q st := by
  rw [countRun'_eq]
  refine wpS_bind (wpS_mono (wpS_forRange (I := fun x c st' => st' = st ∧ c = (none, x) ∧ Up κ (arrOf st) lo x)
    (Q := fun c st' => st' = st ∧ ∃ n, c = (none, n) ∧ 1 ≤ n ∧ n ≤ nrem ∧ Up κ (arrOf st) lo n ∧ (n = nrem ∨ κ.klt (KK κ (arrOf st) (lo + n)) (KK κ (arrOf st) (lo + n - 1)))) ?t1 ?f1 ⟨rfl, rfl, Up.one⟩) ?p1)
  case f1 =>
    rintro c st' ⟨rfl, rfl, hu⟩
    rw [show max 1 nrem = nrem by omega] at hu ⊢
    exact ⟨rfl, nrem, rfl, h1, Nat.le_refl _, hu, .inl rfl⟩
  case t1 =>
    rintro x c st' hx1 hx2 ⟨rfl, rfl, hu⟩
    dsimp only
    refine wpS_bind (wpS_ltG hO h0 hB (by omega) (by omega) ?_)
    cases e : κ.blt (KK κ (arrOf st') (lo + x)) (KK κ (arrOf st') (lo + x - 1)) with
    | true => exact wpS_pure ⟨rfl, x, rfl, hx1, by omega, hu, .inr e⟩
    | false => exact wpS_pure ⟨rfl, rfl, hu.snoc hx1 e⟩
  case p1 =>
    rintro c st' ⟨rfl, n, rfl, hn1, hn2, hu, hor⟩
    dsimp only
    by_cases c1 : n = nrem
    · rw [if_pos (by simpa using c1)]
      exact wpS_pure (h n st' ⟨hB, rfl, fun _ _ => rfl⟩ hn1 hn2 hu)
    rw [if_neg (by simpa using c1)]
    have hlt : κ.klt (KK κ (arrOf st') (lo + n)) (KK κ (arrOf st') (lo + n - 1)) := hor.resolve_left c1
    by_cases c2 : n > 1
    · rw [if_pos c2]
      refine wpS_bind (wpS_ltG hO h0 hB (by omega) (by omega) ?_)
      cases e : κ.blt (KK κ (arrOf st') lo) (KK κ (arrOf st') (lo + n - 1)) with
      | true => exact wpS_pure (h n st' ⟨hB, rfl, fun _ _ => rfl⟩ hn1 hn2 hu)
      | false =>
        dsimp only
        rw [if_neg (by decide)]
        have hall : ∀ k, lo ≤ k → k < lo + n → KK κ (arrOf st') k = KK κ (arrOf st') (lo + n - 1) := fun k k1 k2 =>
          KeyOrd.kle_antisymm (hu k (lo + n - 1) k1 (by omega) (by omega)) (KeyOrd.kle_trans (show κ.kle _ _ from e) (hu lo k (Nat.le_refl _) k1 k2))
        refine wpS_bind (wpS_rev hB (by omega) fun st1 sg1 pe1 ar1 => ?_)
        have kk1 := rev_equal (κ := κ) ar1 hall
        have fx1 : Fx a₀ lo st' st1 := ⟨sg1, pe1, rev_fix (Nat.le_refl _) ar1⟩
        have dn1 : Dn κ (arrOf st1) lo (n + 1) := by
          have z : Dn κ (arrOf st') lo n := fun i j a b c => by rw [hall i a (by omega), hall j (by omega) c]; exact KeyOrd.kle_refl _
          exact (z.snoc hn1 (KeyOrd.kle_of_klt hlt)).congr fun i _ _ => kk1 i
        refine wpS_bind (wpS_rule ?_)
        refine wpS_bind (wpS_mono (wpS_forRange (I := fun x c st2 => ∃ neq, c = (none, x, neq) ∧ Fx a₀ lo st' st2 ∧ Dn κ (arrOf st2) lo x ∧ neq + 1 ≤ x ∧ ∀ i, lo + x - (neq + 1) ≤ i → i < lo + x → KK κ (arrOf st2) i = KK κ (arrOf st2) (lo + x - 1))
          (Q := fun c st2 => ∃ x neq, c = (none, x, neq) ∧ Fx a₀ lo st' st2 ∧ 1 ≤ x ∧ x ≤ nrem ∧ Dn κ (arrOf st2) lo x ∧ neq + 1 ≤ x ∧ ∀ i, lo + x - (neq + 1) ≤ i → i < lo + x → KK κ (arrOf st2) i = KK κ (arrOf st2) (lo + x - 1)) ?t2 ?f2 ⟨0, rfl, fx1, dn1, by omega, fun i a b => by congr 1; omega⟩) ?p2)
        case f2 =>
          rintro c st2 ⟨neq, rfl, f, d, q, e⟩
          rw [show max (n + 1) nrem = nrem by omega] at d q e ⊢
          exact ⟨nrem, neq, rfl, f, by omega, Nat.le_refl _, d, q, e⟩
        case t2 =>
          rintro x c st2 hx1 hx2 ⟨neq, rfl, f, d, q, ee⟩
          dsimp only
          refine wpS_bind (wpS_ltG hO h0 f.sg (by omega) (by omega) ?_)
          cases e1 : κ.blt (KK κ (arrOf st2) (lo + x)) (KK κ (arrOf st2) (lo + x - 1)) with
          | true =>
            dsimp only
            rw [if_pos rfl]
            by_cases c5 : neq > 0
            · rw [if_pos c5]
              refine wpS_bind (wpS_rev f.sg (by omega) fun st3 sg3 pe3 ar3 => wpS_pure ?_)
              have kk3 := rev_equal (κ := κ) ar3 ee
              exact ⟨0, rfl, ⟨sg3, pe3.trans f.pend, fun i hi => (rev_fix (l := lo) (by omega) ar3 i hi).trans (f.fix i hi)⟩, (d.snoc (by omega) (KeyOrd.kle_of_klt e1)).congr fun i _ _ => kk3 i, by omega, fun i a b => by congr 1; omega⟩
            · rw [if_neg c5]
              exact wpS_pure ⟨0, rfl, f, d.snoc (by omega) (KeyOrd.kle_of_klt e1), by omega, fun i a b => by congr 1; omega⟩
          | false =>
            dsimp only
            rw [if_neg (by decide)]
            refine wpS_bind (wpS_ltG hO h0 f.sg (by omega) (by omega) ?_)
            cases e2 : κ.blt (KK κ (arrOf st2) (lo + x - 1)) (KK κ (arrOf st2) (lo + x)) with
            | true => exact wpS_pure ⟨x, neq, rfl, f, by omega, by omega, d, q, ee⟩
            | false =>
              have eqx : KK κ (arrOf st2) (lo + x) = KK κ (arrOf st2) (lo + x - 1) := KeyOrd.kle_antisymm (show κ.kle _ _ from e2) (show κ.kle _ _ from e1)
              refine wpS_pure ⟨neq + 1, rfl, f, d.snoc (by omega) (by rw [eqx]; exact KeyOrd.kle_refl _), by omega, fun i a b => ?_⟩
              rw [show lo + (x + 1) - 1 = lo + x by omega]
              by_cases ix : i = lo + x
              · rw [ix]
              · rw [eqx]; exact ee i (by omega) (by omega)
        case p2 =>
          rintro c st2 ⟨x, neq, rfl, f, hx1, hx2, d, q, ee⟩
          dsimp only
          by_cases c5 : neq > 0
          case' pos =>
            rw [if_pos c5]
            refine wpS_bind (wpS_rev f.sg (by omega) fun st3 sg3 pe3 ar3 => ?_)
            have kk3 := rev_equal (κ := κ) ar3 ee
            have f3 : Fx a₀ lo st' st3 := ⟨sg3, pe3.trans f.pend, fun i hi => (rev_fix (l := lo) (by omega) ar3 i hi).trans (f.fix i hi)⟩
            have d3 : Dn κ (arrOf st3) lo x := d.congr fun i _ _ => kk3 i
          case' neg =>
            rw [if_neg c5]
            have f3 : Fx a₀ lo st' st2 := f
            have d3 : Dn κ (arrOf st2) lo x := d
          all_goals
            refine wpS_bind (wpS_rev f3.sg (by omega) fun st4 sg4 pe4 ar4 => ?_)
            have f4 : Fx a₀ lo st' st4 := ⟨sg4, pe4.trans f3.pend, fun i hi => (rev_fix (l := lo) (Nat.le_refl _) ar4 i hi).trans (f3.fix i hi)⟩
            have u4 : Up κ (arrOf st4) lo x := fun i j a b c => by
              rw [KK_of ((ar4 i).trans (if_pos ⟨a, by omega⟩)), KK_of ((ar4 j).trans (if_pos ⟨by omega, c⟩))]
              exact d3 _ _ (by omega) (by omega) (by omega)
            refine wpS_bind (wpS_mono (wpS_forRange (I := fun y c st' => st' = st4 ∧ c = (none, y) ∧ Up κ (arrOf st4) lo y) (Q := fun c st' => st' = st4 ∧ ∃ y, c = (none, y) ∧ 1 ≤ y ∧ y ≤ nrem ∧ Up κ (arrOf st4) lo y) ?t3 ?f3 ⟨rfl, rfl, u4⟩) ?p3)
            case f3 =>
              rintro c st5 ⟨rfl, rfl, u⟩
              rw [show max x nrem = nrem by omega] at u ⊢
              exact ⟨rfl, nrem, rfl, by omega, Nat.le_refl _, u⟩
            case t3 =>
              rintro y c st5 hy1 hy2 ⟨rfl, rfl, u⟩
              dsimp only
              refine wpS_bind (wpS_ltG hO h0 sg4 (by omega) (by omega) ?_)
              cases e : κ.blt (KK κ (arrOf st5) (lo + y)) (KK κ (arrOf st5) (lo + y - 1)) with
              | true => exact wpS_pure ⟨rfl, y, rfl, by omega, by omega, u⟩
              | false => exact wpS_pure ⟨rfl, rfl, u.snoc (by omega) e⟩
            case p3 =>
              rintro c st5 ⟨rfl, y, rfl, hy1, hy2, u⟩
              exact wpS_pure (h y _ f4 hy1 hy2 u)
    · rw [if_neg c2]
      have en : n = 1 := by omega
      subst en
      have fx1 : Fx a₀ lo st' st' := ⟨hB, rfl, fun _ _ => rfl⟩
      have dn1 : Dn κ (arrOf st') lo (1 + 1) := by
        have z : Dn κ (arrOf st') lo 1 := fun i j a b c => by
          have : i = j := by omega
          subst this; exact KeyOrd.kle_refl _
        exact z.snoc (Nat.le_refl _) (KeyOrd.kle_of_klt hlt)
      refine wpS_bind (wpS_rule ?_)
      refine wpS_bind (wpS_mono (wpS_forRange (I := fun x c st2 => ∃ neq, c = (none, x, neq) ∧ Fx a₀ lo st' st2 ∧ Dn κ (arrOf st2) lo x ∧ neq + 1 ≤ x ∧ ∀ i, lo + x - (neq + 1) ≤ i → i < lo + x → KK κ (arrOf st2) i = KK κ (arrOf st2) (lo + x - 1))
        (Q := fun c st2 => ∃ x neq, c = (none, x, neq) ∧ Fx a₀ lo st' st2 ∧ 1 ≤ x ∧ x ≤ nrem ∧ Dn κ (arrOf st2) lo x ∧ neq + 1 ≤ x ∧ ∀ i, lo + x - (neq + 1) ≤ i → i < lo + x → KK κ (arrOf st2) i = KK κ (arrOf st2) (lo + x - 1)) ?t2 ?f2 ⟨0, rfl, fx1, dn1, by omega, fun i a b => by congr 1; omega⟩) ?p2)
      case f2 =>
        rintro c st2 ⟨neq, rfl, f, d, q, e⟩
        rw [show max (1 + 1) nrem = nrem by omega] at d q e ⊢
        exact ⟨nrem, neq, rfl, f, by omega, Nat.le_refl _, d, q, e⟩
      case t2 =>
        rintro x c st2 hx1 hx2 ⟨neq, rfl, f, d, q, ee⟩
        dsimp only
        refine wpS_bind (wpS_ltG hO h0 f.sg (by omega) (by omega) ?_)
        cases e1 : κ.blt (KK κ (arrOf st2) (lo + x)) (KK κ (arrOf st2) (lo + x - 1)) with
        | true =>
          dsimp only
          rw [if_pos rfl]
          by_cases c5 : neq > 0
          · rw [if_pos c5]
            refine wpS_bind (wpS_rev f.sg (by omega) fun st3 sg3 pe3 ar3 => wpS_pure ?_)
            have kk3 := rev_equal (κ := κ) ar3 ee
            exact ⟨0, rfl, ⟨sg3, pe3.trans f.pend, fun i hi => (rev_fix (l := lo) (by omega) ar3 i hi).trans (f.fix i hi)⟩, (d.snoc (by omega) (KeyOrd.kle_of_klt e1)).congr fun i _ _ => kk3 i, by omega, fun i a b => by congr 1; omega⟩
          · rw [if_neg c5]
            exact wpS_pure ⟨0, rfl, f, d.snoc (by omega) (KeyOrd.kle_of_klt e1), by omega, fun i a b => by congr 1; omega⟩
        | false =>
          dsimp only
          rw [if_neg (by decide)]
          refine wpS_bind (wpS_ltG hO h0 f.sg (by omega) (by omega) ?_)
          cases e2 : κ.blt (KK κ (arrOf st2) (lo + x - 1)) (KK κ (arrOf st2) (lo + x)) with
          | true => exact wpS_pure ⟨x, neq, rfl, f, by omega, by omega, d, q, ee⟩
          | false =>
            have eqx : KK κ (arrOf st2) (lo + x) = KK κ (arrOf st2) (lo + x - 1) := KeyOrd.kle_antisymm (show κ.kle _ _ from e2) (show κ.kle _ _ from e1)
            refine wpS_pure ⟨neq + 1, rfl, f, d.snoc (by omega) (by rw [eqx]; exact KeyOrd.kle_refl _), by omega, fun i a b => ?_⟩
            rw [show lo + (x + 1) - 1 = lo + x by omega]
            by_cases ix : i = lo + x
            · rw [ix]
            · rw [eqx]; exact ee i (by omega) (by omega)
      case p2 =>
        rintro c st2 ⟨x, neq, rfl, f, hx1, hx2, d, q, ee⟩
        dsimp only
        by_cases c5 : neq > 0
        case' pos =>
          rw [if_pos c5]
          refine wpS_bind (wpS_rev f.sg (by omega) fun st3 sg3 pe3 ar3 => ?_)
          have kk3 := rev_equal (κ := κ) ar3 ee
          have f3 : Fx a₀ lo st' st3 := ⟨sg3, pe3.trans f.pend, fun i hi => (rev_fix (l := lo) (by omega) ar3 i hi).trans (f.fix i hi)⟩
          have d3 : Dn κ (arrOf st3) lo x := d.congr fun i _ _ => kk3 i
        case' neg =>
          rw [if_neg c5]
          have f3 : Fx a₀ lo st' st2 := f
          have d3 : Dn κ (arrOf st2) lo x := d
        all_goals
          refine wpS_bind (wpS_rev f3.sg (by omega) fun st4 sg4 pe4 ar4 => ?_)
          have f4 : Fx a₀ lo st' st4 := ⟨sg4, pe4.trans f3.pend, fun i hi => (rev_fix (l := lo) (Nat.le_refl _) ar4 i hi).trans (f3.fix i hi)⟩
          have u4 : Up κ (arrOf st4) lo x := fun i j a b c => by
            rw [KK_of ((ar4 i).trans (if_pos ⟨a, by omega⟩)), KK_of ((ar4 j).trans (if_pos ⟨by omega, c⟩))]
            exact d3 _ _ (by omega) (by omega) (by omega)
          refine wpS_bind (wpS_mono (wpS_forRange (I := fun y c st' => st' = st4 ∧ c = (none, y) ∧ Up κ (arrOf st4) lo y) (Q := fun c st' => st' = st4 ∧ ∃ y, c = (none, y) ∧ 1 ≤ y ∧ y ≤ nrem ∧ Up κ (arrOf st4) lo y) ?t3 ?f3 ⟨rfl, rfl, u4⟩) ?p3)
          case f3 =>
            rintro c st5 ⟨rfl, rfl, u⟩
            rw [show max x nrem = nrem by omega] at u ⊢
            exact ⟨rfl, nrem, rfl, by omega, Nat.le_refl _, u⟩
          case t3 =>
            rintro y c st5 hy1 hy2 ⟨rfl, rfl, u⟩
            dsimp only
            refine wpS_bind (wpS_ltG hO h0 sg4 (by omega) (by omega) ?_)
            cases e : κ.blt (KK κ (arrOf st5) (lo + y)) (KK κ (arrOf st5) (lo + y - 1)) with
            | true => exact wpS_pure ⟨rfl, y, rfl, by omega, by omega, u⟩
            | false => exact wpS_pure ⟨rfl, rfl, u.snoc (by omega) e⟩
          case p3 =>
            rintro c st5 ⟨rfl, y, rfl, hy1, hy2, u⟩
            exact wpS_pure (h y _ f4 hy1 hy2 u)
end
end L2S
/-! Lists of any length sorted: binary insertion from any place on; all runs. -/
namespace L2S
set_option autoImplicit false
open PySem PyProof.Rows
section
variable {prog : Program} {w : World} {A : Around} {E : Value → Shared → Prop} {s : Shared} {κ : KeyKind} {a₀ : Array Keyed}
theorem wpS_binaryG (hO : κ.OneLt) (h0 : KeysOf κ a₀) {st : SortSt} (hB : SG a₀ st) {lo n ok : Nat} (hn : lo + n ≤ a₀.size) (hok : ok ≤ n) (hu : Up κ (arrOf st) lo ok) {Q : Bool → SortSt → Prop}
    (h : ∀ st', Fx a₀ lo st st' → Up κ (arrOf st') lo n → Q true st') : wpS (model prog w) A E s (binarySort' lo n ok) Q st := by
  rw [binarySort'_eq]
  refine wpS_bind (wpS_mono (wpS_forRange (I := fun k c st' => c = (none, ()) ∧ Fx a₀ lo st st' ∧ Up κ (arrOf st') lo (min k n)) (Q := fun c st' => c = (none, ()) ∧ Fx a₀ lo st st' ∧ Up κ (arrOf st') lo n) ?t1 ?f1 ?i1) ?p1)
  case p1 =>
    rintro c st' ⟨rfl, f, u⟩
    exact wpS_pure (h st' f u)
  case i1 =>
    refine ⟨rfl, ⟨hB, rfl, fun _ _ => rfl⟩, fun i j a b c => ?_⟩
    by_cases e : ok = 0
    · have : i = j := by omega
      subst this; exact KeyOrd.kle_refl _
    · exact hu i j a b (by omega)
  case f1 =>
    rintro c st' ⟨hc, f, u⟩
    refine ⟨hc, f, ?_⟩
    rwa [show min (max (max ok 1) n) n = n by omega] at u
  case t1 =>
    rintro k c st1 hk1 hk2 ⟨rfl, f, u⟩
    rw [show min k n = k by omega] at u
    have hks : lo + k < (arrOf st1).size := by rw [f.sg.size]; omega
    refine wpS_bind (wpS_mono (wpS_forRange (I := fun x c st2 => st2 = st1 ∧ ∃ l r, c = (none, l, r) ∧ l ≤ r ∧ r ≤ k ∧ r - l ≤ k - x ∧ (∀ i, lo ≤ i → i < lo + l → κ.kle (KK κ (arrOf st1) i) (KK κ (arrOf st1) (lo + k))) ∧ ∀ i, lo + r ≤ i → i < lo + k → κ.klt (KK κ (arrOf st1) (lo + k)) (KK κ (arrOf st1) i))
      (Q := fun c st2 => st2 = st1 ∧ ∃ l r, c = (none, l, r) ∧ l ≤ k ∧ (∀ i, lo ≤ i → i < lo + l → κ.kle (KK κ (arrOf st1) i) (KK κ (arrOf st1) (lo + k))) ∧ ∀ i, lo + l ≤ i → i < lo + k → κ.klt (KK κ (arrOf st1) (lo + k)) (KK κ (arrOf st1) i)) ?t2 ?f2 ⟨rfl, 0, k, rfl, by omega, by omega, by omega, fun i a b => by omega, fun i a b => by omega⟩) ?p2)
    case f2 =>
      rintro c st2 ⟨rfl, l, r, rfl, h1, h2, h3, h4, h5⟩
      have e : l = r := by omega
      subst e
      exact ⟨rfl, l, l, rfl, h2, h4, h5⟩
    case t2 =>
      rintro x c st2 _ hx ⟨rfl, l, r, rfl, h1, h2, h3, h4, h5⟩
      dsimp only
      by_cases hge : l ≥ r
      · rw [if_pos hge]
        have e : l = r := by omega
        subst e
        exact wpS_pure ⟨rfl, l, l, rfl, h2, h4, h5⟩
      · rw [if_neg hge]
        refine wpS_bind (wpS_ltG hO h0 f.sg (by omega) (by omega) ?_)
        cases e : κ.blt (KK κ (arrOf st2) (lo + k)) (KK κ (arrOf st2) (lo + (l + r) / 2)) with
        | true => exact wpS_pure ⟨rfl, l, (l + r) / 2, rfl, by omega, by omega, by omega, h4, fun i a b => KeyOrd.klt_of_klt_of_kle e (u _ i (by omega) a b)⟩
        | false => exact wpS_pure ⟨rfl, (l + r) / 2 + 1, r, rfl, by omega, by omega, by omega, fun i a b => KeyOrd.kle_trans (u i (lo + (l + r) / 2) a (by omega) (by omega)) e, h5⟩
    case p2 =>
      rintro c st2 ⟨rfl, l, r, rfl, hlk, h4, h5⟩
      dsimp only
      rw [moveDown'_eq]
      have ar : ∀ i, (bubble (arrOf st2) (lo + k) (lo + k - (lo + l)))[i]? = if i = lo + l then (arrOf st2)[lo + k]? else if lo + l < i ∧ i ≤ lo + k then (arrOf st2)[i - 1]? else (arrOf st2)[i]? := fun i => by
        have := getElem?_bubble hks (lo + k - (lo + l)) (by omega) i
        rw [show lo + k - (lo + k - (lo + l)) = lo + l by omega] at this
        exact this
      refine wpS_bind (wpS_modify (wpS_pure ⟨rfl, ⟨⟨(bubble_perm _ _ _).trans f.sg.perm, f.sg.kind, f.sg.failed⟩, f.pend, fun i hi => ?_⟩, ?_⟩))
      · refine Eq.trans ?_ (f.fix i hi)
        refine (ar i).trans ?_
        rw [if_neg (by omega), if_neg (by omega)]
      · rw [show min (k + 1) n = k + 1 by omega]
        have kk : ∀ i, KK κ (bubble (arrOf st2) (lo + k) (lo + k - (lo + l))) i = if i = lo + l then KK κ (arrOf st2) (lo + k) else if lo + l < i ∧ i ≤ lo + k then KK κ (arrOf st2) (i - 1) else KK κ (arrOf st2) i := fun i => by
          by_cases c1 : i = lo + l
          · rw [if_pos c1]; exact KK_of ((ar i).trans (if_pos c1))
          · by_cases c2 : lo + l < i ∧ i ≤ lo + k
            · rw [if_neg c1, if_pos c2]; exact KK_of ((ar i).trans ((if_neg c1).trans (if_pos c2)))
            · rw [if_neg c1, if_neg c2]; exact KK_of ((ar i).trans ((if_neg c1).trans (if_neg c2)))
        intro i j a b c
        show κ.kle (KK κ (bubble (arrOf st2) (lo + k) (lo + k - (lo + l))) i) (KK κ (bubble (arrOf st2) (lo + k) (lo + k - (lo + l))) j)
        rw [kk, kk]
        repeat' split
        all_goals first
          | (exfalso; omega)
          | exact KeyOrd.kle_refl _
          | exact h4 _ (by omega) (by omega)
          | exact KeyOrd.kle_of_klt (h5 _ (by omega) (by omega))
          | exact u _ _ (by omega) (by omega) (by omega)

/-! ### all runs -/
/-- runs that lie side by side from 0 to n -/
inductive Runs (κ : KeyKind) (a : Array Keyed) : Nat → List (Nat × Nat × Nat) → Nat → Prop
  | nil {u : Nat} : Runs κ a u [] u
  | cons {u n pw v : Nat} {l : List (Nat × Nat × Nat)} : 1 ≤ n → Srt κ (seg a.toList u n) → Runs κ a (u + n) l v → Runs κ a u ((u, n, pw) :: l) v
theorem Runs.append {a : Array Keyed} {u v x : Nat} {l m : List (Nat × Nat × Nat)} (h : Runs κ a u l v) (k : Runs κ a v m x) : Runs κ a u (l ++ m) x := by
  induction h with
  | nil => exact k
  | cons h1 h2 _ ih => exact .cons h1 h2 (ih k)
theorem Runs.split {a : Array Keyed} : ∀ {l m : List (Nat × Nat × Nat)} {u x : Nat}, Runs κ a u (l ++ m) x → ∃ v, Runs κ a u l v ∧ Runs κ a v m x
  | [], m, u, x, h => ⟨u, .nil, h⟩
  | _ :: l, m, u, x, h => by
    cases h with
    | cons h1 h2 h3 =>
      obtain ⟨v, q1, q2⟩ := Runs.split (l := l) h3
      exact ⟨v, .cons h1 h2 q1, q2⟩
theorem Runs.le {a : Array Keyed} {u v : Nat} {l : List (Nat × Nat × Nat)} (h : Runs κ a u l v) : u + l.length ≤ v := by
  induction h with
  | nil => simp
  | cons h1 _ _ ih => rw [List.length_cons]; omega
theorem seg_take (l : List Keyed) {u n x : Nat} (hx : u + n ≤ x) : seg l u n = seg (l.take x) u n := by
  unfold seg
  rw [List.drop_take, List.take_take, Nat.min_eq_left (by omega)]
theorem seg_congr {a b : Array Keyed} {u n x : Nat} (h : a.toList.take x = b.toList.take x) (hx : u + n ≤ x) : seg a.toList u n = seg b.toList u n := by
  rw [seg_take a.toList hx, h, ← seg_take b.toList hx]
theorem seg_drop (l : List Keyed) {u n x : Nat} (hx : x ≤ u) : seg l u n = seg (l.drop x) (u - x) n := by
  unfold seg
  rw [List.drop_drop]
  congr 2
  omega
theorem seg_congr' {a b : Array Keyed} {u n x : Nat} (h : a.toList.drop x = b.toList.drop x) (hx : x ≤ u) : seg a.toList u n = seg b.toList u n := by
  rw [seg_drop a.toList hx, h, ← seg_drop b.toList hx]
theorem Runs.congr {a b : Array Keyed} {u v : Nat} {l : List (Nat × Nat × Nat)} (h : Runs κ a u l v) (e : a.toList.take v = b.toList.take v) : Runs κ b u l v := by
  induction h with
  | nil => exact .nil
  | cons h1 h2 h3 ih => exact .cons h1 (by rw [← seg_congr e (by have := h3.le; omega)]; exact h2) (ih e)
theorem Runs.congr' {a b : Array Keyed} {u v x : Nat} {l : List (Nat × Nat × Nat)} (h : Runs κ a u l v) (hx : x ≤ u) (e : a.toList.drop x = b.toList.drop x) : Runs κ b u l v := by
  induction h with
  | nil => exact .nil
  | cons h1 h2 h3 ih => exact .cons h1 (by rw [← seg_congr' e hx]; exact h2) (ih (by omega))
theorem take_fix {a b : Array Keyed} {u : Nat} (hs : a.size = b.size) (h : ∀ i, i < u → a[i]? = b[i]?) : a.toList.take u = b.toList.take u := by
  refine List.ext_getElem? fun i => ?_
  rw [List.getElem?_take, List.getElem?_take]
  by_cases c : i < u
  · rw [if_pos c, if_pos c]
    have := h i c
    simpa using this
  · rw [if_neg c, if_neg c]
/-- two neighbouring runs of many made one -/
theorem wpS_mergeRuns (hO : κ.OneLt) (h0 : KeysOf κ a₀) {st : SortSt} (hB : SG a₀ st) {l r : List (Nat × Nat × Nat)} {p1 p2 : Nat × Nat × Nat} {x : Nat} (hp : (pendingOf st).toList = l ++ p1 :: p2 :: r) (hR : Runs κ (arrOf st) 0 (pendingOf st).toList x) (hx : x ≤ a₀.size) {Q : Bool → SortSt → Prop}
    (h : ∀ st' p, SG a₀ st' → (pendingOf st').toList = l ++ p :: r → Runs κ (arrOf st') 0 (pendingOf st').toList x → (arrOf st').toList.drop x = (arrOf st).toList.drop x → Q true st') : wpS (model prog w) A E s (mergeAt' l.length) Q st := by
  rw [hp] at hR
  obtain ⟨v, r1, r2⟩ := hR.split
  cases r2 with
  | @cons u n pw v1 l1 n1 s1 r3 =>
    cases r3 with
    | @cons u2 m pw2 v2 l2 m1 s2 r4 =>
      have hle := r4.le
      refine wpS_mergeAt hO h0 hB (i := l.length) (u := v) (n := n) (m := m) (pw := pw) (pw2 := pw2) ?_ ?_ n1 m1 (by omega) s1 s2 fun st' sg pe J => ?_
      · rw [← Array.getElem?_toList, hp, List.getElem?_append_right (Nat.le_refl _), Nat.sub_self]; rfl
      · rw [← Array.getElem?_toList, hp, List.getElem?_append_right (by omega), Nat.add_sub_cancel_left]; rfl
      · have e : (pendingOf st').toList = l ++ (v, n + m, pw) :: r := by
          rw [pe, Array.toList_eraseIdxIfInBounds, Array.toList_setIfInBounds, hp]
          rw [List.set_append_right _ _ (Nat.le_refl _), Nat.sub_self, List.set_cons_zero, List.eraseIdx_append_of_length_le (by omega), Nat.add_sub_cancel_left]
          rfl
        refine h st' _ sg e ?_ ?_
        · rw [e]
          refine (r1.congr J.ahead.symm).append (.cons (by omega) J.srt ?_)
          have r5 : Runs κ (arrOf st) (v + (n + m)) r x := by rw [show v + (n + m) = v + n + m by omega]; exact r4
          exact r5.congr' (Nat.le_refl _) J.behind.symm
        · have d := J.behind
          have z : ∀ t : List Keyed, t.drop x = (t.drop (v + (n + m))).drop (x - (v + (n + m))) := fun t => by rw [List.drop_drop]; congr 1; omega
          rw [z, z (arrOf st).toList, d]
theorem modify_last {α : Type} (f : α → α) : ∀ (q : List α) (a : α), (q ++ [a]).modify q.length f = q ++ [f a]
  | [], a => rfl
  | c :: q, a => by
    rw [List.cons_append, List.length_cons, List.modify_succ_cons, modify_last f q a]
    rfl
theorem Runs.power {a : Array Keyed} {u v x1 x2 x3 : Nat} {q : List (Nat × Nat × Nat)} (pw : Nat) (h : Runs κ a u (q ++ [(x1, x2, x3)]) v) : Runs κ a u (q ++ [(x1, x2, pw)]) v := by
  obtain ⟨y, r1, r2⟩ := h.split
  refine r1.append ?_
  cases r2 with
  | cons h1 h2 h3 => exact .cons h1 h2 h3
theorem last2 {α : Type} {l : List α} (h : 1 < l.length) : ∃ q a b, l = q ++ [a, b] ∧ q.length = l.length - 2 := by
  refine ⟨l.take (l.length - 2), l[l.length - 2], l[l.length - 1], ?_, by rw [List.length_take]; omega⟩
  have e : l.drop (l.length - 2) = [l[l.length - 2], l[l.length - 1]] := by
    rw [List.drop_eq_getElem_cons (by omega), List.drop_eq_getElem_cons (by omega), List.drop_of_length_le (by omega)]
    congr 2
    congr 1
    omega
  rw [← e, List.take_append_drop]
theorem last1 {α : Type} {l : List α} (h : 0 < l.length) : ∃ q a, l = q ++ [a] ∧ q.length = l.length - 1 := by
  refine ⟨l.take (l.length - 1), l[l.length - 1], ?_, by rw [List.length_take]; omega⟩
  have e : l.drop (l.length - 1) = [l[l.length - 1]] := by
    rw [List.drop_eq_getElem_cons (by omega), List.drop_of_length_le (by omega)]
  rw [← e, List.take_append_drop]
theorem at2 {α : Type} {l : List α} {i : Nat} (h : i + 1 < l.length) : ∃ q a b r, l = q ++ a :: b :: r ∧ q.length = i := by
  refine ⟨l.take i, l[i], l[i + 1], l.drop (i + 2), ?_, by rw [List.length_take]; omega⟩
  have e : l.drop i = l[i] :: l[i + 1] :: l.drop (i + 2) := by
    rw [List.drop_eq_getElem_cons (by omega), List.drop_eq_getElem_cons (by omega)]
  rw [← e, List.take_append_drop]
/-- all of it -/
theorem wpS_sortRunsG (hO : κ.OneLt) (h0 : KeysOf κ a₀) {st : SortSt} (hB : SG a₀ st) (hp : pendingOf st = #[]) (h1 : 1 ≤ a₀.size) {Q : Unit → SortSt → Prop}
    (h : ∀ st', (arrOf st').Perm a₀ → failedOf st' = none → SortedToK κ (arrOf st') a₀.size → Q () st') : wpS (model prog w) A E s sortRuns' Q st := by
  rw [sortRuns'_eq]
  refine wpS_bind (wpS_get ?_)
  dsimp only
  rw [hB.size]
  generalize minRun' a₀.size a₀.size 0 = mr
  refine wpS_bind (wpS_mono (wpS_forRange (I := fun x c st' => ∃ lo, c = (none, lo) ∧ SG a₀ st' ∧ Runs κ (arrOf st') 0 (pendingOf st').toList lo ∧ x ≤ lo ∧ lo ≤ a₀.size)
    (Q := fun c st' => ∃ lo, c = (none, lo) ∧ SG a₀ st' ∧ Runs κ (arrOf st') 0 (pendingOf st').toList a₀.size) ?t1 ?f1 ⟨0, rfl, hB, by rw [hp]; exact .nil, Nat.le_refl _, by omega⟩) ?p1)
  case f1 =>
    rintro c st' ⟨lo, rfl, sg, rn, hx, hl⟩
    have e : lo = a₀.size := by omega
    subst e
    exact ⟨_, rfl, sg, rn⟩
  case t1 =>
    rintro x c st1 _ hx ⟨lo, rfl, sg, rn, hxl, hl⟩
    dsimp only
    by_cases c1 : lo ≥ a₀.size
    · rw [if_pos c1]
      have e : lo = a₀.size := by omega
      subst e
      exact wpS_pure ⟨_, rfl, sg, rn⟩
    rw [if_neg c1]
    refine wpS_bind (wpS_countRunG hO h0 sg (by omega) (by omega) fun m st2 f2 m1 m2 u2 => ?_)
    dsimp only
    by_cases c2 : m < mr
    case' pos =>
      rw [if_pos c2]
      refine wpS_bind (wpS_rule (wpS_bind (wpS_binaryG hO h0 f2.sg (by omega) (by omega) u2 fun st3 f3 u3 => ?_)))
      rw [if_neg (by decide)]
      have fx : Fx a₀ lo st1 st3 := ⟨f3.sg, f3.pend.trans f2.pend, fun i hi => (f3.fix i hi).trans (f2.fix i hi)⟩
      have nn : 1 ≤ min (a₀.size - lo) mr := by omega
      have nl : lo + min (a₀.size - lo) mr ≤ a₀.size := by omega
      generalize min (a₀.size - lo) mr = n at u3 nn nl ⊢
      obtain ⟨st4, e4⟩ : ∃ q, q = st3 := ⟨_, rfl⟩
    case' neg =>
      rw [if_neg c2]
      have fx : Fx a₀ lo st1 st2 := f2
      have u3 := u2
      have nn := m1
      have nl : lo + m ≤ a₀.size := by omega
      generalize m = n at u3 nn nl ⊢
      obtain ⟨st4, e4⟩ : ∃ q, q = st2 := ⟨_, rfl⟩
    all_goals
      rw [← e4] at fx u3 ⊢
      have sg4 := fx.sg
      have rn4 : Runs κ (arrOf st4) 0 (pendingOf st4).toList lo := by
        rw [fx.pend]
        exact rn.congr (take_fix (by rw [sg.size, sg4.size]) fun i hi => (fx.fix i hi).symm)
      have s4 : Srt κ (seg (arrOf st4).toList lo n) := srt_of_at (by rw [sg4.size]; exact nl) u3
      clear e4 fx u3 f2
      refine wpS_bind (wpS_get ?_)
      by_cases c3 : 0 < (pendingOf st4).toList.length
      · obtain ⟨q, a, eq, lq⟩ := last1 c3
        obtain ⟨s1, n1, pw1⟩ := a
        have bk : (pendingOf st4).back? = some (s1, n1, pw1) := by
          rw [Array.back?_eq_getElem?, ← Array.getElem?_toList, eq, List.getElem?_append_right (by rw [lq]; exact Nat.le_of_eq rfl)]
          have : (pendingOf st4).size - 1 - q.length = 0 := by rw [lq]; show _ - 1 - ((pendingOf st4).size - 1) = 0; omega
          rw [this]; rfl
        rw [bk]
        dsimp only
        refine wpS_bind (wpS_mono (wpS_forRange (I := fun _ c st5 => c = (none, ()) ∧ SG a₀ st5 ∧ Runs κ (arrOf st5) 0 (pendingOf st5).toList lo ∧ Srt κ (seg (arrOf st5).toList lo n) ∧ 0 < (pendingOf st5).toList.length)
          (Q := fun c st5 => c = (none, ()) ∧ SG a₀ st5 ∧ Runs κ (arrOf st5) 0 (pendingOf st5).toList lo ∧ Srt κ (seg (arrOf st5).toList lo n) ∧ 0 < (pendingOf st5).toList.length) ?t2 (fun _ _ z => z) ⟨rfl, sg4, rn4, s4, c3⟩) ?p2)
        case t2 =>
          rintro y c st5 _ _ ⟨rfl, g5, r5, s5, l5⟩
          refine wpS_bind (wpS_get ?_)
          by_cases c4 : (pendingOf st5).size > 1
          · rw [if_pos c4]
            obtain ⟨q5, a5, b5, e5, k5⟩ := last2 (l := (pendingOf st5).toList) c4
            have g1 : (pendingOf st5)[(pendingOf st5).size - 2]? = some a5 := by
              rw [← Array.getElem?_toList, e5, List.getElem?_append_right (by rw [k5]; exact Nat.le_of_eq rfl)]
              have : (pendingOf st5).size - 2 - q5.length = 0 := by rw [k5]; show _ - 2 - ((pendingOf st5).size - 2) = 0; omega
              rw [this]; rfl
            rw [g1]
            obtain ⟨a51, a52, a53⟩ := a5
            dsimp only
            split
            · exact wpS_pure ⟨rfl, g5, r5, s5, l5⟩
            · have kq : (pendingOf st5).size - 2 = q5.length := k5.symm
              rw [kq]
              refine wpS_bind (wpS_mergeRuns hO h0 g5 (r := []) e5 r5 (by omega) fun st6 p6 g6 e6 r6 d6 => ?_)
              rw [if_neg (by decide)]
              refine wpS_pure ⟨rfl, g6, r6, ?_, by rw [e6]; simp⟩
              rw [seg_congr' d6 (Nat.le_refl _)]
              exact s5
          · rw [if_neg c4]
            exact wpS_pure ⟨rfl, g5, r5, s5, l5⟩
        case p2 =>
          rintro c st5 ⟨rfl, g5, r5, s5, l5⟩
          dsimp only
          obtain ⟨q5, a5, e5, k5⟩ := last1 l5
          obtain ⟨x1, x2, x3⟩ := a5
          refine wpS_bind (wpS_modify (wpS_bind (wpS_modify (wpS_pure ⟨_, rfl, ⟨g5.perm, g5.kind, g5.failed⟩, ?_, ?_, nl⟩))))
          · show Runs κ (arrOf st5) 0 _ (lo + n)
            have em : ∀ pw, ((pendingOf st5).modify ((pendingOf st5).size - 1) fun (t : Nat × Nat × Nat) => (t.1, t.2.1, pw)).toList = q5 ++ [(x1, x2, pw)] := fun pw => by
              rw [Array.toList_modify, e5]
              have : (pendingOf st5).size - 1 = q5.length := k5.symm
              rw [this, modify_last]
            rw [Array.toList_push]
            refine Runs.append ?_ (.cons nn s5 .nil)
            refine (congrArg (fun l => Runs κ (arrOf st5) 0 l lo) (em _)).mpr ?_
            rw [e5] at r5
            exact r5.power _
          · omega
      · have ep : pendingOf st4 = #[] := by
          have : (pendingOf st4).toList = [] := List.length_eq_zero_iff.mp (by omega)
          simpa using this
        have bk : (pendingOf st4).back? = none := by rw [ep]; rfl
        rw [bk]
        dsimp only
        refine wpS_bind (wpS_modify (wpS_pure ⟨_, rfl, ⟨sg4.perm, sg4.kind, sg4.failed⟩, ?_, by omega, nl⟩))
        show Runs κ (arrOf st4) 0 ((pendingOf st4).push (lo, n, 0)).toList (lo + n)
        rw [Array.toList_push]
        exact rn4.append (.cons nn s4 .nil)
  case p1 =>
    rintro c st1 ⟨lo, rfl, sg, rn⟩
    dsimp only
    have rl := rn.le
    refine wpS_bind (wpS_mono (wpS_forRange (I := fun x c st' => c = (none, ()) ∧ SG a₀ st' ∧ Runs κ (arrOf st') 0 (pendingOf st').toList a₀.size ∧ (pendingOf st').toList.length + x ≤ a₀.size)
      (Q := fun c st' => c = (none, ()) ∧ SG a₀ st' ∧ Runs κ (arrOf st') 0 (pendingOf st').toList a₀.size ∧ (pendingOf st').toList.length ≤ 1) ?t3 ?f3 ⟨rfl, sg, rn, by omega⟩) ?p3)
    case f3 =>
      rintro c st' ⟨hc, g, r, hl⟩
      exact ⟨hc, g, r, by omega⟩
    case p3 =>
      rintro c st' ⟨rfl, g, r, hl⟩
      refine wpS_pure (h st' g.perm g.failed ?_)
      have hsz := g.size
      generalize (pendingOf st').toList = l at r hl
      generalize a₀.size = z at r hsz h1 ⊢
      match l, r, hl with
      | [], r, _ =>
        cases r
        omega
      | [(a1, a2, a3)], r, _ =>
        cases r with
        | cons n1 s1 r1 =>
          cases r1
          intro i j hij hj
          exact seg_at s1 (by omega) (Nat.zero_le _) hij (by omega)
      | _ :: _ :: _, _, hl => simp at hl
    case t3 =>
      rintro x c st2 _ hx ⟨rfl, g, r, hl⟩
      refine wpS_bind (wpS_get ?_)
      by_cases c1 : (pendingOf st2).size ≤ 1
      · rw [if_pos c1]
        exact wpS_pure ⟨rfl, g, r, c1⟩
      rw [if_neg c1]
      have merge : ∀ i, i + 1 < (pendingOf st2).size → ∀ (f : Bool → StateT SortSt Sem (ForInStep (Option PUnit × PUnit))) (Q' : ForInStep (Option PUnit × PUnit) → SortSt → Prop), (∀ st3, SG a₀ st3 → Runs κ (arrOf st3) 0 (pendingOf st3).toList a₀.size → (pendingOf st3).toList.length + 1 = (pendingOf st2).toList.length → wpS (model prog w) A E s (f true) Q' st3) → wpS (model prog w) A E s (mergeAt' i >>= f) Q' st2 := fun i hi f Q' k => by
        obtain ⟨q, a, b, t, e, lq⟩ := at2 (l := (pendingOf st2).toList) (i := i) hi
        rw [← lq]
        refine wpS_bind (wpS_mergeRuns hO h0 g e r (Nat.le_refl _) fun st3 p3 g3 e3 r3 _ => k st3 g3 r3 ?_)
        rw [e3, e]
        simp only [List.length_append, List.length_cons]
        omega
      split
      · exact merge _ (by split <;> omega) _ _ fun st3 g3 r3 l3 => by
          rw [if_neg (by decide)]
          exact wpS_pure ⟨rfl, g3, r3, by omega⟩
      · exact merge _ (by split <;> omega) _ _ fun st3 g3 r3 l3 => by
          rw [if_neg (by decide)]
          exact wpS_pure ⟨rfl, g3, r3, by omega⟩
end
end L2S
/-! sorted(..) of texts, however many. -/
namespace L2S
set_option autoImplicit false
open PySem PyProof.Rows
section
variable {prog : Program} {w : World} {A : Around} {E : Value → Shared → Prop} {s : Shared}
/-- l.sort() for a list of texts -/
theorem sort_texts {l : Addr} {vs : List Value} {ss : List Str} {n : Nat} {P : Fin → Shared → Prop} (hl : s.heap.get? l = some (seqObj "list" vs.toArray n)) (hS : StrsAre vs ss) (hz : vs.length ≤ sizeLine)
    (k : ∀ st : SortSt, (arrOf st).Perm (pairsOf vs) → SortedToK strKind (arrOf st) (pairsOf vs).size → P (.done (.ret .none)) { s with heap := sortedHeap s.heap l vs ((arrOf st).map (·.2)) }) :
    wpAny (model prog w) A (Builtin.«list.sort» ⟨[.ref l], []⟩) P E s := by
  have vsz : vs.toArray.size = vs.length := List.size_toArray ..
  have lt : l < s.heap.objs.size := Heap.lt_size hl
  rw [list_sort_plain]
  refine wpAny_bind (listItems_at hl rfl (wpAny_bind (listUpdate_at hl rfl ?_ (hsz := by rw [vsz]; exact hz) (hsz2 := Nat.zero_le _))))
  obtain ⟨m, g1⟩ : ∃ m, (s.heap.update l (Obj.mapSeq fun _ => #[])).get? l = some (seqObj "list" #[] m) := ⟨_, get?_update_seq hl (fun _ => #[])⟩
  refine wpAny_bind (seqEpoch_at g1 rfl (wpAny_bind (wpAny_newTuple ?_ (by simpa using hz))))
  refine wpAny_bind (wpAny_newList ?_)
  refine wpAny_holding ?_
  have g2 : ((s.heap.update l (Obj.mapSeq fun _ => #[])).push (seqObj "tuple" vs.toArray 0)).get? l = some (seqObj "list" #[] m) := by
    rw [Heap.get?_push_ne _ _ _ (by rw [Heap.size_update]; exact Nat.ne_of_lt lt)]; exact g1
  have g3 : (((s.heap.update l (Obj.mapSeq fun _ => #[])).push (seqObj "tuple" vs.toArray 0)).push (seqObj "list" #[] 0)).get? l = some (seqObj "list" #[] m) := by
    rw [Heap.get?_push_ne _ _ _ (by rw [size_push', Heap.size_update]; exact Nat.ne_of_lt (Nat.lt_succ_of_lt lt))]; exact g2
  show wpAny (model prog w) A _ P E ⟨((s.heap.update l (Obj.mapSeq fun _ => #[])).push (seqObj "tuple" vs.toArray 0)).push (seqObj "list" #[] 0), _, _, _, _⟩
  dsimp only
  -- behind the sorting
  have rest : ∀ st : SortSt, (arrOf st).Perm (pairsOf vs) → failedOf st = none → SortedToK strKind (arrOf st) (pairsOf vs).size → ((arrOf st).map (·.2)).size ≤ sizeLine + 1 := fun st hp _ _ => by
    rw [Array.size_map, hp.size_eq, pairsOf_size]; exact Nat.le_succ_of_le hz
  by_cases few : vs.toArray.size < 2
  · rw [if_pos few, if_pos few]
    refine wpAny_bind (wpAny_pure ?_)
    rw [StateT.run_pure]
    have srt : SortedToK strKind (pairsOf vs) (pairsOf vs).size := fun i j hij hj => by
      have e : i = j := by rw [pairsOf_size] at hj; omega
      subst e; exact KeyOrd.kle_refl _
    have fits := rest (SortSt.mk' general' (vs.toArray.zip vs.toArray) #[] 7 none) (Array.Perm.refl _) rfl srt
    refine wpAny_bind (wpAny_pure (wpAny_bind (seqEpoch_at g3 rfl (wpAny_bind (listUpdate_at g3 rfl ?_ (hsz2 := fits))))))
    simp only [bne_self_eq_false, Bool.false_eq_true, if_false]
    exact wpAny_pure (k (SortSt.mk' general' (vs.toArray.zip vs.toArray) #[] 7 none) (Array.Perm.refl _) srt)
  · rw [if_neg few, if_neg few]
    have kk : keyKind' vs.toArray = pure oneType' := by
      match vs, hS, few with
      | [], _, few => exact absurd (by decide) few
      | [_], _, few => exact absurd (show 1 < 2 by decide) few
      | _ :: _ :: _, hS, _ => exact keyKind_strs hS
    rw [kk]
    refine wpAny_bind (wpAny_pure (wpAny_bind ?_))
    have go := wpS_sortRunsG (prog := prog) (w := w) (A := A) (E := E) (s := ⟨((s.heap.update l (Obj.mapSeq fun _ => #[])).push (seqObj "tuple" vs.toArray 0)).push (seqObj "list" #[] 0), s.gens, s.drawn, s.toks, s.os⟩) strKind_oneLt (a₀ := pairsOf vs) hS.keysOf
      (st := SortSt.mk' oneType' (vs.toArray.zip vs.toArray) #[] 7 none) ⟨Array.Perm.refl _, rfl, rfl⟩ rfl (by rw [pairsOf_size]; omega)
      (Q := fun _ st => (arrOf st).Perm (pairsOf vs) ∧ failedOf st = none ∧ SortedToK strKind (arrOf st) (pairsOf vs).size) fun st a b c => ⟨a, b, c⟩
    refine wpAny_mono go (fun r s' hr => ?_) fun _ _ z => z
    obtain ⟨rfl, hp, hf, hs⟩ := hr
    obtain ⟨u, st⟩ := r
    dsimp only at hp hf hs ⊢
    refine wpAny_bind (seqEpoch_at g3 rfl (wpAny_bind (listUpdate_at g3 rfl ?_ (hsz2 := rest st hp hf hs))))
    rw [hf]
    simp only [bne_self_eq_false, Bool.false_eq_true, if_false]
    exact wpAny_pure (k st hp hs)
/-- sorted(x), x being walked as texts -/
theorem sorted_texts {x : Value} {Q : Value → Shared → Prop}
    (h : wpAny (model prog w) A.in1 (collect x) (fun vs s1 => vs.length ≤ sizeLine ∧ ∃ ss, StrsAre vs ss ∧ ∀ (h' : Heap) (vs' : List Value) (ss' : List Str) (m : Nat), (∀ b o, s1.heap.get? b = some o → h'.get? b = some o) → h'.get? s1.heap.objs.size = some (seqObj "list" vs'.toArray m) → StrsAre vs' ss' → ss'.Perm ss → sortedS ss' = true →
      Q (.ref s1.heap.objs.size) { s1 with heap := h' }) (fun _ _ => False) s) : wpAny (model prog w) A (call (.builtin "sorted") [x]) Q E s := by
  refine Calls.call_function_entry kind_sorted plain_sorted entry_sorted (args_sorted1 _) ?_
  unfold Builtin.«sorted»
  refine wpAny_bind (m := checkCount "sorted" 1 1 _) (wpAny_pure ?_)
  refine wpAny_bind (wpAny_mono h (fun vs s1 hv => ?_) fun _ _ z => False.elim z)
  obtain ⟨hz, ss, hS, k⟩ := hv
  refine wpAny_bind (wpAny_newList ?_ (by simpa using hz))
  have g : (s1.heap.push (seqObj "list" vs.toArray 0)).get? s1.heap.objs.size = some (seqObj "list" vs.toArray 0) := Heap.get?_push_size _ rfl
  show wpAny _ _ _ _ _ ⟨s1.heap.push (seqObj "list" vs.toArray 0), _, _, _, _⟩
  refine wpAny_bind (wpAny_holding (wpAny_call_entry slot_list_sort ⟨_, g, rfl⟩ entry_list_sort (sort_texts (s := ⟨s1.heap.push (seqObj "list" vs.toArray 0), s1.gens, s1.drawn, s1.toks, s1.os⟩) g hS hz fun st hp hs => ⟨_, rfl, ?_⟩) (args_list_sort _)))
  obtain ⟨ss', o1, o2, o3⟩ := sorted_out_str hS hp hs
  refine wpAny_pure ⟨_, rfl, ?_⟩
  have lt : s1.heap.objs.size < (s1.heap.push (seqObj "list" vs.toArray 0)).objs.size := by rw [size_push']; exact Nat.lt_succ_self _
  obtain ⟨m0, g1⟩ : ∃ m0, ((s1.heap.push (seqObj "list" vs.toArray 0)).update s1.heap.objs.size (Obj.mapSeq fun _ => #[])).get? s1.heap.objs.size = some (seqObj "list" #[] m0) := ⟨_, get?_update_seq g (fun _ => #[])⟩
  have g2 : ((((s1.heap.push (seqObj "list" vs.toArray 0)).update s1.heap.objs.size (Obj.mapSeq fun _ => #[])).push (seqObj "tuple" vs.toArray 0)).push (seqObj "list" #[] 0)).get? s1.heap.objs.size = some (seqObj "list" #[] m0) := by
    rw [Heap.get?_push_ne _ _ _ (by rw [size_push', Heap.size_update]; exact Nat.ne_of_lt (Nat.lt_succ_of_lt lt)), Heap.get?_push_ne _ _ _ (by rw [Heap.size_update]; exact Nat.ne_of_lt lt)]
    exact g1
  generalize (arrOf st).map (fun p => p.2) = out at o1 ⊢
  obtain ⟨m, g3⟩ : ∃ m, (sortedHeap (s1.heap.push (seqObj "list" vs.toArray 0)) s1.heap.objs.size vs out).get? s1.heap.objs.size = some (seqObj "list" out m) := ⟨_, get?_update_seq g2 (fun _ => out)⟩
  have e : out = out.toList.toArray := by simp
  refine k _ out.toList ss' m (fun b o q => ?_) (by rw [← e]; exact g3) o1 o2 o3
  have nb : s1.heap.objs.size ≠ b := Nat.ne_of_gt (Heap.lt_size q)
  unfold sortedHeap
  rw [Heap.get?_update_other _ _ nb]
  refine Heap.get?_push_of_some _ (Heap.get?_push_of_some _ ?_)
  rw [Heap.get?_update_other _ _ nb]
  exact Heap.get?_push_of_some _ q
end
end L2S
/-! Sets of texts: what is added, in whatever order it lies. -/
namespace L2T
set_option autoImplicit false
open PySem PyProof.Rows
section
variable (prog : Program) (w : World)
/-- a set whose members are the texts of l, each once -/
structure SetX (h : Heap) (a : Addr) (l : List Str) : Prop where
  ex : ∃ (o : Obj) (es : Array (Int × Value)) (ep : Nat) (t : SetTable) (ks : List Str), h.get? a = some o ∧ o.ExactSet ∧ o.data = .set es ep t ∧ ElemsOf (PySem.strKind prog w) es.toList ∧ StrsAre (es.toList.map (·.2)) ks ∧ ks.Perm l ∧ es.size < scanBound ∧ t.fits es.size = true ∧ (t.plain = false ∨ es.size = 0)
end
section
variable {prog : Program} {w : World} {A : Around} {E : Value → Shared → Prop} {s : Shared}
theorem SetX.keeps {h h' : Heap} {a : Addr} {l : List Str} (x : SetX prog w h a l) (k : ∀ o, h.get? a = some o → h'.get? a = some o) : SetX prog w h' a l := by
  obtain ⟨o, es, ep, t, ks, e, r⟩ := x.ex
  exact ⟨o, es, ep, t, ks, k o e, r⟩
theorem str_is (x : Str) (t : Tok) : (PySem.strKind prog w).is x (.str x t) = true := by
  show Value.isStrOf x (.str x t) = true
  simp [Value.isStrOf]
theorem is_str {x : Str} {v : Value} (h : (PySem.strKind prog w).is x v = true) : ∃ t, v = .str x t := Value.isStrOf_shape (x := x) (v := v) h
theorem strs_mem {vs : List Value} {ks : List Str} (h : StrsAre vs ks) {x : Str} : x ∈ ks ↔ ∃ t, Value.str x t ∈ vs := by
  induction h with
  | nil => simp
  | cons y t r ih =>
    rw [List.mem_cons, ih]
    constructor
    · rintro (e | ⟨u, e⟩)
      · subst e; exact ⟨t, List.mem_cons_self⟩
      · exact ⟨u, List.mem_cons_of_mem _ e⟩
    · rintro ⟨u, e⟩
      rcases List.mem_cons.mp e with q | q
      · cases q; exact .inl rfl
      · exact .inr ⟨u, q⟩
theorem strs_append : ∀ {vs us : List Value} {ks ls : List Str}, StrsAre vs ks → StrsAre us ls → StrsAre (vs ++ us) (ks ++ ls)
  | _, _, _, _, .nil, h => h
  | _, _, _, _, .cons x t r, h => .cons x t (strs_append r h)
theorem strs_perm {vs us : List Value} {ks : List Str} (h : StrsAre vs ks) (p : us.Perm vs) : ∃ ls, StrsAre us ls ∧ ls.Perm ks := by
  induction p generalizing ks with
  | nil => exact ⟨ks, h, .refl _⟩
  | cons v _ ih =>
    cases h with
    | cons x t r =>
      obtain ⟨ls, h1, h2⟩ := ih r
      exact ⟨x :: ls, .cons x t h1, h2.cons x⟩
  | swap a b l =>
    cases h with
    | cons x t r =>
      cases r with
      | cons y u r2 => exact ⟨y :: x :: _, .cons y u (.cons x t r2), .swap x y _⟩
  | trans _ _ ih1 ih2 =>
    obtain ⟨ls, h1, h2⟩ := ih2 h
    obtain ⟨ms, h3, h4⟩ := ih1 h1
    exact ⟨ms, h3, h4.trans h2⟩
theorem laid_plain {mask finger moves : Nat} {led plain : Bool} {hashes : Array Int} {t : SetTable} {o : Array Nat} (h : SetTable.laid mask finger moves led plain hashes = some (t, o)) : t.plain = plain := by
  unfold SetTable.laid at h
  simp only [bind, Option.bind, pure] at h
  repeat' split at h
  all_goals first | (cases h; done) | (cases h; rfl)
theorem relay_plain (t : SetTable) (es : Array (Int × Value)) (n : Nat) (h : t.plain = false) : (relayAll t es n).2.1.plain = false := by
  unfold relayAll
  split
  · rename_i t' order e
    dsimp only
    split
    · unfold SetTable.relaid at e
      exact (laid_plain e).trans h
    · rfl
  · rfl
/-- what stands where nothing was found -/
theorem notIn {es : Array (Int × Value)} {ks l : List Str} (hs : StrsAre (es.toList.map (·.2)) ks) (hp : ks.Perm l) {x : Str} : x ∈ l ↔ ∃ e ∈ es.toList, (PySem.strKind prog w).is x e.2 = true := by
  rw [← hp.mem_iff, strs_mem hs]
  constructor
  · rintro ⟨t, h⟩
    obtain ⟨e, he, q⟩ := List.mem_map.mp h
    exact ⟨e, he, by rw [q]; exact str_is x t⟩
  · rintro ⟨e, he, q⟩
    obtain ⟨t, et⟩ := is_str q
    exact ⟨t, by rw [← et]; exact List.mem_map.mpr ⟨e, he, rfl⟩⟩
theorem setAdd_text {a : Addr} {l : List Str} {x : Str} {tk : Tok} {Q : Bool → Shared → Prop} (SX : SetX prog w s.heap a l) (room : l.length + 1 < scanBound)
    (k : ∀ h', Heap.SameBut a s.heap h' → SetX prog w h' a (if x ∈ l then l else l ++ [x]) → Q (!decide (x ∈ l)) { s with heap := h' }) : wpAny (model prog w) A (setAddHashed a (.str x tk) ((PySem.strKind prog w).hash x)) Q E s := by
  obtain ⟨o, es, ep, t, ks, at0, exact0, dat, els, tex, perm, bnd, fits, pl⟩ := SX.ex
  have len : es.size = l.length := by
    have h1 := tex.length
    rw [List.length_map, perm.length_eq] at h1
    simpa using h1
  have key : (PySem.strKind prog w).is x (.str x tk) = true := str_is x tk
  unfold setAddHashed setAddHashedIn
  refine wpAny_holding (wpAny_bind (wpAny_setState_of at0 dat fits ?_))
  dsimp only
  rw [byScan_of (knd := PySem.strKind prog w) (x := .str x tk) rfl bnd els, if_pos rfl]
  unfold setAddByScan
  refine wpAny_bind (wpAny_bind (wpAny_rule (wpAny_bind (wpAny_setScan_of key at0 dat fits els ?_))))
  cases found : List.findIdx? (fun e => (PySem.strKind prog w).is x e.2) es.toList with
  | some j =>
    obtain ⟨hj, hpj, _⟩ := List.findIdx?_eq_some_iff_getElem.mp found
    have mem : x ∈ l := (notIn tex perm).mpr ⟨es.toList[j], List.getElem_mem hj, hpj⟩
    dsimp only
    refine wpAny_pure (wpAny_pure ?_)
    have := k s.heap (Heap.SameBut.refl a s.heap) (by rw [if_pos mem]; exact SX)
    rw [decide_eq_true mem] at this
    exact this
  | none =>
    have mem : ¬ x ∈ l := fun z => by
      obtain ⟨e, he, q⟩ := (notIn (prog := prog) (w := w) tex perm).mp z
      have := List.findIdx?_eq_none_iff.mp found e he
      rw [q] at this; cases this
    rw [decide_eq_false mem] at k
    dsimp only
    have gv : ∀ (b : Bool) {s1 : Shared} {Q' : Unit → Shared → Prop}, Q' () s1 → wpAny (model prog w) A (match b with | true => rule "set.scan.the-table-gave-way" | false => pure ()) Q' E s1 :=
      fun b s1 Q' q => by cases b <;> first | exact wpAny_pure q | exact wpAny_rule q
    have lp := layNew_perm t es ((PySem.strKind prog w).hash x) (.str x tk)
    have lf := layNew_fits t es ((PySem.strKind prog w).hash x) (.str x tk)
    generalize layNew t es ((PySem.strKind prog w).hash x) (.str x tk) = L at lp lf ⊢
    obtain ⟨es1, t1, dm, gave⟩ := L
    dsimp only at lp lf ⊢
    rw [Array.toList_push] at lp
    have els1 : ElemsOf (PySem.strKind prog w) es1.toList := (els.push key rfl).perm lp
    obtain ⟨ks1, tex1, p1⟩ := strs_perm (us := es1.toList.map (·.2)) (by
      have z := strs_append tex (StrsAre.cons x tk .nil)
      have e : es.toList.map (·.2) ++ [Value.str x tk] = (es.toList ++ [((PySem.strKind prog w).hash x, Value.str x tk)]).map (·.2) := by rw [List.map_append]; rfl
      rw [e] at z
      exact z) (lp.map _)
    have perm1 : ks1.Perm (l ++ [x]) := p1.trans (perm.append_right _)
    have sz1 : es1.size = es.size + 1 := by
      have := lp.length_eq
      rw [List.length_append] at this
      simpa using this
    have bnd1 : es1.size < scanBound := by omega
    rw [if_neg mem] at k
    refine wpAny_bind (gv _ ?_)
    -- the members are stored, then perhaps laid anew
    have tail : ∀ t2 : SetTable, t2.fits es1.size = true → t2.plain = false → ∀ (g : Bool → Sem Unit), (∀ (b : Bool) (s1 : Shared) (Q' : Unit → Shared → Prop), Q' () s1 → wpAny (model prog w) A (g b) Q' E s1) →
        wpAny (model prog w) A (do
          storeSet a es1 t2
          if (!dm && t2.tooFull) = true then do
              g (relayAll t2 es1 (SetTable.grown es1.size)).2.2
              storeSet a (relayAll t2 es1 (SetTable.grown es1.size)).1 (relayAll t2 es1 (SetTable.grown es1.size)).2.1
              pure (some true)
            else pure (some true)) (fun r s' => r = some true ∧ Q true s') E s := fun t2 f2 pl2 g hg => by
      refine wpAny_bind (wpAny_storeSet_of at0 dat ?_ (fits_of_scanBound bnd1))
      have at1 : (s.heap.update a (Obj.putSet es1 t2)).get? a = some (Obj.putSet es1 t2 o) := Heap.get?_update_self _ at0 (by obtain ⟨c, d, dd, sl⟩ := o; cases dat; rfl)
      have sb := Heap.SameBut.update s.heap a (Obj.putSet es1 t2)
      have X1 : SetX prog w (s.heap.update a (Obj.putSet es1 t2)) a (l ++ [x]) ∧ ∃ ep1, (Obj.putSet es1 t2 o).data = .set es1 ep1 t2 ∧ (Obj.putSet es1 t2 o).ExactSet := by
        obtain ⟨c, d, dd, sl⟩ := o
        cases dat
        exact ⟨⟨_, es1, _, t2, ks1, at1, exact0, rfl, els1, tex1, perm1, bnd1, f2, .inl pl2⟩, _, rfl, exact0⟩
      obtain ⟨X1, ep1, dat1, ex1⟩ := X1
      split
      · have rp := relayAll_perm t2 es1 (SetTable.grown es1.size)
        have rf := relayAll_fits t2 es1 (SetTable.grown es1.size)
        have rpl := relay_plain t2 es1 (SetTable.grown es1.size) pl2
        generalize relayAll t2 es1 (SetTable.grown es1.size) = Rl at rp rf rpl ⊢
        obtain ⟨es2, t3, gave2⟩ := Rl
        dsimp only at rp rf rpl ⊢
        obtain ⟨ks2, tex2, p2⟩ := strs_perm (us := es2.toList.map (·.2)) tex1 (rp.map _)
        have sz2 : es2.size = es1.size := by have := rp.length_eq; simpa using this
        have bnd2 : es2.size < scanBound := by omega
        refine wpAny_bind (hg _ _ _ (wpAny_bind (wpAny_storeSet_of at1 dat1 (wpAny_pure ⟨rfl, k _ (sb.trans (Heap.SameBut.update _ a _)) ?_⟩) (fits_of_scanBound bnd2))))
        have at2 : ((s.heap.update a (Obj.putSet es1 t2)).update a (Obj.putSet es2 t3)).get? a = some (Obj.putSet es2 t3 (Obj.putSet es1 t2 o)) := Heap.get?_update_self _ at1 (by obtain ⟨c, d, dd, sl⟩ := o; cases dat; rfl)
        obtain ⟨c, d, dd, sl⟩ := o
        cases dat
        exact ⟨_, es2, _, t3, ks2, at2, exact0, rfl, els1.perm rp, tex2, p2.trans perm1, bnd2, rf, .inl rpl⟩
      · exact wpAny_pure ⟨rfl, k _ sb X1⟩
    split
    · refine wpAny_bind ?_
      rw [hashByValue_scannable 8 (show (Value.str x tk).scannable = true from rfl)]
      refine wpAny_pure ?_
      rw [if_neg (show ¬ plainKind (Value.str x tk) = true from Bool.false_ne_true)]
      refine wpAny_mono (tail { t1 with plain := false } (SetTable.fits_plain_off lf) rfl _ fun b s1 Q' q => ?_) (fun r s' hr => ?_) fun _ _ z => z
      · cases b <;> first | exact wpAny_pure q | exact wpAny_rule q
      · obtain ⟨rfl, q⟩ := hr
        exact wpAny_pure q
    · rename_i np
      refine wpAny_bind (wpAny_pure ?_)
      rw [if_pos rfl]
      refine wpAny_mono (tail t1 lf (by simpa using np) _ fun b s1 Q' q => ?_) (fun r s' hr => ?_) fun _ _ z => z
      · cases b <;> first | exact wpAny_pure q | exact wpAny_rule q
      · obtain ⟨rfl, q⟩ := hr
        exact wpAny_pure q
end
end L2T
/-! set(list of texts). -/
namespace L2T
set_option autoImplicit false
open PySem PyProof.Rows
def dedStep (acc : List Str) (x : Str) : List Str := if x ∈ acc then acc else acc ++ [x]
def ded (l : List Str) : List Str := l.foldl dedStep []
theorem ded_snoc (l : List Str) (x : Str) : ded (l ++ [x]) = dedStep (ded l) x := by unfold ded; rw [List.foldl_append]; rfl
theorem dedStep_mem {acc : List Str} {x y : Str} : y ∈ dedStep acc x ↔ y ∈ acc ∨ y = x := by
  unfold dedStep
  split
  · rename_i h
    exact ⟨.inl, fun z => z.elim id fun e => by rw [e]; exact h⟩
  · rw [List.mem_append, List.mem_singleton]
theorem dedStep_nodup {acc : List Str} {x : Str} (h : acc.Nodup) : (dedStep acc x).Nodup := by
  unfold dedStep
  split
  · exact h
  · rename_i hn
    refine List.nodup_append.mpr ⟨h, by simp, fun a ha b hb => ?_⟩
    have : b = x := by simpa using hb
    subst this
    rintro rfl
    exact hn ha
theorem dedStep_len (acc : List Str) (x : Str) : (dedStep acc x).length ≤ acc.length + 1 := by
  unfold dedStep
  split
  · omega
  · simp
theorem ded_all : ∀ (n : Nat) (l : List Str), l.length = n → (ded l).Nodup ∧ (∀ y, y ∈ ded l ↔ y ∈ l) ∧ (ded l).length ≤ l.length
  | 0, l, h => by
    have : l = [] := List.length_eq_zero_iff.mp h
    subst this
    exact ⟨List.nodup_nil, fun y => by simp [ded], by simp [ded]⟩
  | n + 1, l, h => by
    have hne : l ≠ [] := by rintro rfl; cases h
    have e : l = l.dropLast ++ [l.getLast hne] := (List.dropLast_concat_getLast hne).symm
    obtain ⟨a, b, c⟩ := ded_all n l.dropLast (by rw [List.length_dropLast, h]; rfl)
    rw [e, ded_snoc]
    refine ⟨dedStep_nodup a, fun y => ?_, ?_⟩
    · rw [dedStep_mem, b y, List.mem_append, List.mem_singleton]
    · have := dedStep_len (ded l.dropLast) (l.getLast hne)
      rw [List.length_append]
      simp only [List.length_singleton]
      omega
section
variable {prog : Program} {w : World} {A : Around}
theorem update_loop {R : Result → Shared → Prop} {I : Addr} {fp wr : List Addr} {n : Nat} {P : Nat → Value → Prop} {St : Nat → Heap → Prop} (W : Walks prog w A.in1 I fp wr n P St) (S : Addr) (hSf : S ∉ fp) (val : Nat → Str) (hval : ∀ i v, P i v → ∃ t, v = .str (val i) t) (hb : n + 1 < scanBound) :
    ∀ (k i : Nat) (s : Shared), n - i = k → i ≤ n → St i s.heap → SetX prog w s.heap S (ded ((List.range i).map val)) →
      (∀ h' tk, (∀ b o, b ∉ S :: wr → s.heap.get? b = some o → h'.get? b = some o) → SetX prog w h' S (ded ((List.range n).map val)) → R (.ok (.ret .none)) { s with heap := h', toks := tk }) →
      codeAny (model prog w) A (.builtin "set.update.loop" ⟨[.ref S, .ref I], []⟩) R s := by
  have hSw : S ∉ wr := fun z => hSf (W.sub _ z)
  intro k
  induction k with
  | zero =>
    intro i s hk hi st X done
    have e : i = n := by omega
    subst e
    refine codeAny_builtin F.entry_set_update_loop ?_
    rw [Around.under_plainId F.plain_set_update_loop _]
    refine wpAny_bind (m := pyNext (.ref I)) (W.done s _ _ st fun h' tk kp => ?_)
    exact wpAny_pure (done h' tk (fun b o nb q => kp b o (fun z => nb (List.mem_cons_of_mem _ z)) q) (X.keeps fun o q => kp S o hSw q))
  | succ k ih =>
    intro i s hk hi st X done
    have lt : i < n := by omega
    refine codeAny_builtin F.entry_set_update_loop ?_
    rw [Around.under_plainId F.plain_set_update_loop _]
    refine wpAny_bind (m := pyNext (.ref I)) (W.item i s _ _ lt st fun v h1 tk hP st1 kp => ?_)
    obtain ⟨t, rfl⟩ := hval i v hP
    have X1 : SetX prog w h1 S (ded ((List.range i).map val)) := X.keeps fun o q => kp S o hSw q
    refine wpAny_bind (m := holding [Value.str (val i) t] (setAdd S (.str (val i) t))) (wpAny_holding ?_)
    unfold setAdd
    refine wpAny_holding (wpAny_bind ((PySem.strKind prog w).pyHash (k := val i) (str_is _ _) ?_))
    have room : (ded ((List.range i).map val)).length + 1 < scanBound := by
      have := (ded_all _ ((List.range i).map val) rfl).2.2
      rw [List.length_map, List.length_range] at this
      omega
    refine setAdd_text (s := ⟨h1, s.gens, s.drawn, tk + 1, s.os⟩) X1 room fun h2 sb X2 => ?_
    have X3 : SetX prog w h2 S (ded ((List.range (i + 1)).map val)) := by
      rw [List.range_succ, List.map_append, List.map_cons, List.map_nil, ded_snoc]
      exact X2
    refine wpAny_pure ⟨plainId_quiet F.plain_set_update_loop _, ih (i + 1) ⟨h2, s.gens, s.drawn, tk + 1, s.os⟩ (by omega) lt (W.frame _ h1 _ st1 fun b hb' o q => ?_) X3 fun h3 tk3 kp3 X4 => ?_⟩
    · rw [sb.2 b (fun z => hSf (by rw [← z]; exact hb'))]; exact q
    · refine done h3 tk3 (fun b o nb q => kp3 b o nb ?_) X4
      rw [sb.2 b (fun z => nb (by rw [z]; exact List.mem_cons_self))]
      exact kp b o (fun z => nb (List.mem_cons_of_mem _ z)) q
theorem strs_at : ∀ {vs : List Value} {ks : List Str}, StrsAre vs ks → ∀ (i : Nat) (v : Value), vs[i]? = some v → ∃ t, v = .str (ks.getD i Str.empty) t
  | _, _, .nil, i, v, h => by simp at h
  | _, _, .cons x t r, 0, v, h => ⟨t, by simp at h; simp [h]⟩
  | _, _, .cons x t r, i + 1, v, h => by
    obtain ⟨u, e⟩ := strs_at r i v (by simpa using h)
    exact ⟨u, by simpa using e⟩
theorem strs_len {vs : List Value} {ks : List Str} (h : StrsAre vs ks) : vs.length = ks.length := by
  induction h with
  | nil => rfl
  | cons x t r ih => rw [List.length_cons, List.length_cons, ih]
theorem range_getD (ks : List Str) : (List.range ks.length).map (fun i => ks.getD i Str.empty) = ks := by
  refine List.ext_getElem? fun i => ?_
  by_cases h : i < ks.length
  · rw [List.getElem?_map, List.getElem?_range h, List.getElem?_eq_getElem h]
    simp [List.getD_eq_getElem?_getD, h]
  · rw [List.getElem?_eq_none (by simpa using h), List.getElem?_eq_none (by simpa using h)]
variable {E : Value → Shared → Prop} {s : Shared}
set_option maxRecDepth 100000 in
set_option maxHeartbeats 3200000 in
/-- set(xs) -/
theorem call_set_texts {l : Addr} {items : Array Value} {ss : List Str} {Q : Value → Shared → Prop} (hh : A.handled = none) (hl : s.heap.IsList l items) (hS : StrsAre items.toList ss) (hb : items.size + 1 < scanBound)
    (k : ∀ (h' : Heap) (tk : Nat), SetX prog w h' s.heap.objs.size (ded ss) → (∀ b o, s.heap.get? b = some o → h'.get? b = some o) → Q (.ref s.heap.objs.size) { s with heap := h', toks := tk }) :
    wpAny (model prog w) A (call (.type "set") [.ref l]) Q E s := by
  obtain ⟨c, tl, hmro⟩ := F.called_set.mro
  have hmade := F.called_set.made
  have hsub := F.called_set.sub
  refine wpAny_call (codeAny_of_tree ?_)
  change wpAny _ _ (callAny (.type "set") _) _ _ _
  refine wpAny_pure ⟨Code.quiet_builtin _ (by decide +kernel), codeAny_builtin F.entry_type_call ?_⟩
  rw [Around.under_plain (weight_type_call_type "set" [.ref l] []) rfl]
  have nt := F.called_set.notType
  have cc := F.called_set.canCreate
  have ct := F.typeCall_set_1 (.ref l)
  repeat (any_goals (first | assumption | wp_step))
  refine codeAny_mono (code_set_new_1 (.ref l) (E := E) (Q₁ := fun obj s1 => ∃ led : Bool, obj = .ref s.heap.objs.size ∧ s1 = { s with heap := s.heap.push { cls := .type "set", dict := none, data := .set #[] 0 (.fresh 0 0 led) } }) fun led => ⟨led, rfl, rfl⟩) fun r s1 hr => ?_
  cases r with
  | error e => exact hr
  | ok fl =>
    cases fl with
    | next => exact hr.elim
    | brk => exact hr.elim
    | cont => exact hr.elim
    | ret obj =>
      obtain ⟨led, rfl, rfl⟩ := hr
      generalize hO : ({ cls := .type "set", dict := none, data := .set #[] 0 (.fresh 0 0 led) } : Obj) = oS
      have atS : (s.heap.push oS).get? s.heap.objs.size = some oS := Heap.get?_push_size _ (by rw [← hO]; rfl)
      have hT : Shared.TypeIs { s with heap := s.heap.push oS } (.ref s.heap.objs.size) "set" := ⟨_, atS, by rw [← hO]⟩
      have il := F.called_set.init.lookup
      have ib := F.called_set.init.bind (.ref s.heap.objs.size)
      have X0 : ∀ h' : Heap, h'.get? s.heap.objs.size = some oS → SetX prog w h' s.heap.objs.size [] := fun h' e => by
        rw [← hO] at e
        exact ⟨_, #[], 0, _, [], e, ⟨rfl, rfl, rfl⟩, rfl, fun z hz => by simp at hz, .nil, .nil, by unfold scanBound; decide, rfl, .inr rfl⟩
      repeat (any_goals (first | assumption | wp_step))
      refine codeAny_mono (codeAny_call_builtin (R := wants (fun r s2 => r = .none ∧ ∃ h' tk, s2 = { s with heap := h', toks := tk } ∧ SetX prog w h' s.heap.objs.size (ded ss) ∧ ∀ b o, s.heap.get? b = some o → h'.get? b = some o) E)
        F.called_set.init.plain F.entry_set_init (check_set_init_1 hT ?_)) fun r2 s2 hr2 => ?_
      · subst hO
        obtain ⟨ol, hol, hcl, nl, hdl⟩ := hl
        obtain ⟨ocls, odict, odata, oslots⟩ := ol
        simp only at hcl hdl
        subst hcl; subst hdl
        have hol' : (s.heap.push { cls := .type "set", dict := none, data := .set #[] 0 (.fresh 0 0 led) }).get? l = some { cls := .type "list", dict := odict, data := .seq items nl, slots := oslots } := Heap.get?_push_of_some _ hol
        have hsls := F.sub_list_set
        have hslf := F.sub_list_frozenset
        have hne : (Value.type "list" == Value.type "dict") = false := by decide
        have hl1 : Heap.IsList (s.heap.push { cls := .type "set", dict := none, data := .set #[] 0 (.fresh 0 0 led) }) l items := ⟨_, hol', rfl, nl, rfl⟩
        unfold Builtin.«set.__init__» noKeywords Builtin.Frozenset.updateFrom
        generalize hPI : pyIter = PI
        wp_walk
        subst hPI
        refine wpAny_pyIter_list hl1 ?_
        refine wpAny_bind (wpAny_runValue ?_)
        have ltl : l < s.heap.objs.size := Heap.lt_size hol
        have szS : (s.heap.push { cls := .type "set", dict := none, data := .set #[] 0 (.fresh 0 0 led) }).objs.size = s.heap.objs.size + 1 := Heap.size_push ..
        have sl := strs_len hS
        refine update_loop (Walks.list (by simp [hh]) _ l (by rw [szS]; exact Nat.ne_of_lt (Nat.lt_succ_of_lt ltl)) items) s.heap.objs.size (by
          rw [szS]
          simp only [List.mem_cons, List.not_mem_nil, or_false, not_or]
          exact ⟨Nat.ne_of_lt (Nat.lt_succ_self _), Nat.ne_of_gt ltl⟩) (fun i => ss.getD i Str.empty) (fun i v hv => strs_at hS i v (by rw [Array.getElem?_toList]; exact hv)) hb (items.size - 0) 0 _ (by omega) (Nat.zero_le _)
          ⟨⟨_, Heap.get?_push_size _ rfl, rfl, rfl⟩, hl1.push _⟩ (X0 _ (Heap.get?_push_of_some _ atS)) fun h' tk kp X => ?_
        have e1 : (List.range items.size).map (fun i => ss.getD i Str.empty) = ss := by
          have : items.size = ss.length := by simpa using sl
          rw [this]
          exact range_getD ss
        rw [e1] at X
        refine wpAny_pure (wpAny_pure ⟨rfl, h', tk, rfl, X, fun b o q => kp b o ?_ (Heap.get?_push_of_some _ (Heap.get?_push_of_some _ q))⟩)
        have lb := Heap.lt_size q
        rw [szS]
        simp only [List.mem_cons, List.not_mem_nil, or_false, not_or]
        exact ⟨Nat.ne_of_lt lb, Nat.ne_of_lt (Nat.lt_succ_of_lt lb)⟩
      · cases r2 with
        | error e => exact hr2
        | ok fl2 =>
          cases fl2 with
          | next => exact hr2.elim
          | brk => exact hr2.elim
          | cont => exact hr2.elim
          | ret r =>
            obtain ⟨rfl, h', tk, rfl, X, kp⟩ := hr2
            repeat (any_goals (first | assumption | wp_step))
            exact k _ _ X kp
end
end L2T
/-! The set iterator's doors. -/
namespace L2T
set_option autoImplicit false
set_option maxRecDepth 100000
open PySem PyProof.Rows
theorem slot_set_iter : Slot "set" "__iter__" "set.__iter__" :=
  .of (owner := "set") (n := "__iter__") (by rw [typeLookup_type, builtinLookup_eq_fast]; kernel_rfl) (by decide +kernel) (by decide +kernel) (by decide +kernel) (by first | exact .inl (by decide +kernel) | exact .inr (by decide +kernel)) (by rw [isSubtype_type]; kernel_rfl)
theorem slot_si_next : Slot "set_iterator" "__next__" "set_iterator.__next__" :=
  .of (owner := "set_iterator") (n := "__next__") (by rw [typeLookup_type, builtinLookup_eq_fast]; kernel_rfl) (by decide +kernel) (by decide +kernel) (by decide +kernel) (by first | exact .inl (by decide +kernel) | exact .inr (by decide +kernel)) (by rw [isSubtype_type]; kernel_rfl)
theorem slot_si_iter : Slot "set_iterator" "__iter__" "set_iterator.__iter__" :=
  .of (owner := "set_iterator") (n := "__iter__") (by rw [typeLookup_type, builtinLookup_eq_fast]; kernel_rfl) (by decide +kernel) (by decide +kernel) (by decide +kernel) (by first | exact .inl (by decide +kernel) | exact .inr (by decide +kernel)) (by rw [isSubtype_type]; kernel_rfl)
theorem entry_si_next : entryFor table "set_iterator.__next__" = some Builtin.«set_iterator.__next__» := entryFor_of_fast (by kernel_rfl)
theorem entry_set_iter : entryFor table "set.__iter__" = some Builtin.«frozenset.__iter__» := entryFor_alias (id' := "frozenset.__iter__") (by kernel_rfl) rfl (by decide +kernel) (by kernel_rfl)
theorem entry_si_iter : entryFor table "set_iterator.__iter__" = some Builtin.«dict_keyiterator.__iter__» := entryFor_alias (id' := "dict_keyiterator.__iter__") (by kernel_rfl) rfl (by decide +kernel) (by kernel_rfl)
theorem args_si_next (a : Value) : argsOk "set_iterator.__next__" ⟨[a], []⟩ := by unfold argsOk; kernel_rfl
theorem args_set_iter (a : Value) : argsOk "set.__iter__" ⟨[a], []⟩ := by unfold argsOk; kernel_rfl
theorem args_si_iter (a : Value) : argsOk "set_iterator.__iter__" ⟨[a], []⟩ := by unfold argsOk; kernel_rfl
theorem len_set : typeLookup (.type "set") "__len__" = pure (some (.builtin "set.__len__")) := by rw [typeLookup_type, builtinLookup_eq_fast]; kernel_rfl

end L2T
/-! A set of texts walked: in any order, each member once. -/
namespace L2T
set_option autoImplicit false
set_option maxRecDepth 100000
open PySem PyProof.Rows
theorem erase_perm {α : Type} : ∀ {l : List α} {i : Nat} (h : i < l.length), (l[i] :: l.eraseIdx i).Perm l
  | a :: l, 0, _ => .refl _
  | a :: l, i + 1, h => by
    have hi : i < l.length := by simpa using h
    have ih := erase_perm (l := l) (i := i) hi
    show (l[i] :: a :: l.eraseIdx i).Perm (a :: l)
    exact (List.Perm.swap a _ _).trans (ih.cons a)
def drawn' (es : Array (Int × Value)) (t : SetTable) : Bool := !t.plain && decide (es.size > 1)
theorem setDrawn_eq (a : Addr) : setDrawn a = (do
    let z ← setState a
    let b ← setsByText
    return !b && drawn' z.1 z.2.2) := rfl
section
variable {prog : Program} {w : World} {A : Around} {E : Value → Shared → Prop} {s : Shared}
theorem wpAny_choose {src : Source} {n : Nat} {Q : Nat → Shared → Prop} (hn : 0 < n) (h : ∀ i d, i < n → Q i { s with drawn := d }) : wpAny (model prog w) A (choose src n) Q E s := fun Γ p _ => by
  unfold choose
  rw [Sem.wp_choose]
  exact ⟨Nat.ne_of_gt hn, h _ _ (Nat.mod_lt _ hn)⟩
theorem drawOrder_perm {α : Type} : ∀ (n : Nat) (xs : List α) (s : Shared) {Q : List α → Shared → Prop}, xs.length = n → (∀ ys d, ys.Perm xs → Q ys { s with drawn := d }) → wpAny (model prog w) A (drawOrder n xs) Q E s
  | 0, xs, s, Q, hn, h => by
    have e : xs = [] := List.length_eq_zero_iff.mp hn
    subst e
    exact wpAny_pure (h [] s.drawn (.refl _))
  | n + 1, [], s, Q, hn, h => by cases hn
  | n + 1, x :: xs, s, Q, hn, h => by
    unfold drawOrder
    refine wpAny_bind (wpAny_choose (Nat.succ_pos _) fun i d hi => ?_)
    rw [List.getElem?_eq_getElem hi]
    dsimp only
    refine wpAny_bind (drawOrder_perm n ((x :: xs).eraseIdx i) _ (by rw [List.length_eraseIdx_of_lt hi, hn]; rfl) fun ys d2 p => wpAny_pure (h _ d2 ?_))
    exact (p.cons _).trans (erase_perm hi)
theorem pick_go {α : Type} (next : Nat → Nat) : ∀ (fuel k : Nat) (left : List α) (out : Array α), left.length = fuel → (pickOrder.go next fuel k left out).toList.Perm (out.toList ++ left)
  | 0, k, left, out, h => by
    have e : left = [] := List.length_eq_zero_iff.mp h
    subst e
    unfold pickOrder.go
    rw [List.append_nil]
  | f + 1, k, left, out, h => by
    have hl : next k % left.length < left.length := Nat.mod_lt _ (by omega)
    unfold pickOrder.go
    rw [List.getElem?_eq_getElem hl]
    dsimp only
    refine (pick_go next f (k + 1) _ _ (by rw [List.length_eraseIdx_of_lt hl, h]; rfl)).trans ?_
    rw [Array.toList_push, List.append_assoc]
    exact List.Perm.append_left _ (erase_perm hl)
theorem pick_perm {α : Type} (next : Nat → Nat) (xs : Array α) : (pickOrder next xs).toList.Perm xs.toList := by
  have := pick_go next xs.size 0 xs.toList #[] (by simp)
  exact this
/-- a walk's end: StopIteration made, raised and taken -/
theorem stop_new {Q : Option Value → Shared → Prop} {R : Fin → Shared → Prop} (hh : A.handled = none) (k : ∀ h', (∀ b o, s.heap.get? b = some o → h'.get? b = some o) → Q none { s with heap := h' }) :
    wpAny (model prog w) A.in1 (newExc (.type "StopIteration") [] >>= fun e => raiseNew e) R (fun e s' => wpAny (model prog w) A (do if ← isInstance e (.type "StopIteration") then pure none else throw e) Q E s') s := by
  refine wpAny_bind ?_
  simp only [newExc, newTuple]
  refine wpAny_bind (wpAny_newObj_type ?_ (by size_fits))
  refine wpAny_bind (m := firstArgMember _ _) (wpAny_of_eq (a := Value.none) (by first | rfl | (simp only [firstArgMember]; rfl)) ?_)
  refine wpAny_newObj_type ?_ (by size_fits)
  simp only [raiseNew]
  refine wpAny_bind (wpAny_handled ?_)
  rw [show A.in1.handled = none from hh]
  refine wpAny_bind (wpAny_pure (wpAny_throw ?_))
  refine wpAny_bind (wpAny_isInstance (T := "StopIteration") (b := true) ⟨_, Heap.get?_push_size _ rfl, rfl⟩ isSubtype_stop ?_)
  exact wpAny_pure (k _ fun b o e => Heap.get?_push_of_some _ (Heap.get?_push_of_some _ e))
/-- an iterator over the set at S: what it gives, by counts -/
def itObj (first : Value) (i : Nat) (S : Addr) (n ep : Nat) : Obj := { cls := .type "set_iterator", data := .fields #[first, rawInt i, .ref S, rawInt n, rawInt ep] }
/-- by places that were drawn -/
theorem next_drawn {I S F : Addr} {o : Obj} {es : Array (Int × Value)} {ep i : Nat} {t : SetTable} {pl : List Nat} {Q : Option Value → Shared → Prop} (hi : s.heap.get? I = some (itObj (.ref F) i S es.size ep)) (hS : s.heap.get? S = some o) (hd : o.data = .set es ep t) (hf : t.fits es.size = true)
    (hF : s.heap.get? F = some { cls := .type "tuple", data := .seq (pl.map fun (j : Nat) => rawInt j).toArray }) {p : Nat} {e : Int × Value} (hp : pl[i]? = some p) (he : es[p]? = some e)
    (k : ∀ h', h'.get? I = some (itObj (.ref F) (i + 1) S es.size ep) → Heap.SameBut I s.heap h' → Q (some e.2) { s with heap := h' }) : wpAny (model prog w) A (pyNext (.ref I)) Q E s := by
  have hT : s.TypeIs (.ref I) "set_iterator" := ⟨_, hi, rfl⟩
  unfold pyNext
  refine wpAny_bind (wpAny_attempt (wpAny_callSpecial?_slot (name := Str.ofString "__next__") hT slot_si_next (wpAny_call_entry slot_si_next hT entry_si_next ?_ (args_si_next _))))
  unfold Builtin.«set_iterator.__next__»
  refine wpAny_bind (m := slotArgs "__next__" 0 _) (wpAny_pure ?_)
  refine wpAny_bind (wpAny_fieldsOf hi rfl ?_)
  dsimp only [List.toArray, rawInt]
  refine wpAny_bind (wpAny_setEntries_of hS hd hf ?_)
  rw [if_neg (by simp)]
  refine wpAny_bind (wpAny_seqItems hF rfl ?_)
  dsimp only
  have e1 : ((pl.map fun (j : Nat) => rawInt j).toArray)[((i : Nat) : Int).toNat]? = some (.int ((p : Nat) : Int) 0) := by
    rw [Int.toNat_natCast, List.getElem?_toArray, List.getElem?_map, hp]; rfl
  rw [e1]
  dsimp only
  refine wpAny_bind ?_
  unfold setNextDrawn
  refine wpAny_bind (wpAny_setState_of hS hd hf ?_)
  dsimp only
  rw [if_neg (by simp)]
  rw [Int.toNat_natCast, he]
  refine wpAny_pure (wpAny_bind (wpAny_setField hi rfl (by show 1 < 5; decide) (wpAny_pure ⟨_, rfl, wpAny_pure (k _ ?_ (Heap.SameBut.update ..))⟩)))
  rw [Heap.get?_update_self _ hi rfl]
  rfl
/-- .. and its end -/
theorem end_drawn {I S F : Addr} {o : Obj} {es : Array (Int × Value)} {ep i : Nat} {t : SetTable} {pl : List Nat} {Q : Option Value → Shared → Prop} (hh : A.handled = none) (hi : s.heap.get? I = some (itObj (.ref F) i S es.size ep)) (hS : s.heap.get? S = some o) (hd : o.data = .set es ep t) (hf : t.fits es.size = true)
    (hF : s.heap.get? F = some { cls := .type "tuple", data := .seq (pl.map fun (j : Nat) => rawInt j).toArray }) (hp : pl[i]? = none)
    (k : ∀ h', Heap.ExtBut I s.heap h' → Q none { s with heap := h' }) : wpAny (model prog w) A (pyNext (.ref I)) Q E s := by
  have hT : s.TypeIs (.ref I) "set_iterator" := ⟨_, hi, rfl⟩
  unfold pyNext
  refine wpAny_bind (wpAny_attempt (wpAny_callSpecial?_slot (name := Str.ofString "__next__") hT slot_si_next (wpAny_call_entry slot_si_next hT entry_si_next ?_ (args_si_next _))))
  unfold Builtin.«set_iterator.__next__»
  refine wpAny_bind (m := slotArgs "__next__" 0 _) (wpAny_pure ?_)
  refine wpAny_bind (wpAny_fieldsOf hi rfl ?_)
  dsimp only [List.toArray, rawInt]
  refine wpAny_bind (wpAny_setEntries_of hS hd hf ?_)
  rw [if_neg (by simp)]
  refine wpAny_bind (wpAny_seqItems hF rfl ?_)
  dsimp only
  have e1 : ((pl.map fun (j : Nat) => rawInt j).toArray)[((i : Nat) : Int).toNat]? = none := by
    rw [Int.toNat_natCast, List.getElem?_toArray, List.getElem?_map, hp]; rfl
  rw [e1]
  dsimp only
  refine wpAny_bind (wpAny_setField hi rfl (by show 0 < 5; decide) ?_)
  refine wpAny_bind (wpAny_setField (Heap.get?_update_self _ hi rfl) rfl (by show 2 < 5; decide) ?_)
  exact stop_new hh fun h' xb' => k h' fun b o nb q => xb' b o (((Heap.SameBut.update ..).trans (Heap.SameBut.update ..)).extBut b o nb q)
/-- by a given order -/
def ordT (w : World) (S : Addr) (ep : Nat) (es : Array (Int × Value)) : Array (Int × Value) := pickOrder (w.params.setOrder S ep) es
theorem setNext_text {S : Addr} {o : Obj} {es : Array (Int × Value)} {ep i : Nat} {t : SetTable} {Q : Option (Value × Nat) → Shared → Prop} (ht : w.params.followText "set-order" = true) (hS : s.heap.get? S = some o) (hd : o.data = .set es ep t) (hf : t.fits es.size = true)
    (k : Q (((ordT w S ep es)[i]?).map fun e => (e.2, 0)) s) : wpAny (model prog w) A (setNext S 0 i ep) Q E s := by
  unfold setNext
  refine wpAny_bind (wpAny_setState_of hS hd hf ?_)
  dsimp only
  have ST : ∀ {Q : Bool → Shared → Prop}, Q true s → wpAny (model prog w) A setsByText Q E s := fun h => wpAny_bind (wpAny_askSetting (wpAny_pure (by show _; rw [show (model prog w).w = w from rfl, ht]; exact h)))
  refine wpAny_bind (ST ?_)
  rw [if_pos rfl]
  rw [if_neg (by simp)]
  unfold setWalk
  refine wpAny_bind (wpAny_bind (wpAny_setState_of hS hd hf ?_))
  dsimp only
  refine wpAny_bind (ST ?_)
  rw [if_pos rfl]
  refine wpAny_bind (wpAny_askSetting (wpAny_pure ?_))
  exact wpAny_pure k
theorem next_text {I S : Addr} {o : Obj} {es : Array (Int × Value)} {ep i : Nat} {t : SetTable} {Q : Option Value → Shared → Prop} (ht : w.params.followText "set-order" = true) (hi : s.heap.get? I = some (itObj (rawInt 0) i S es.size ep)) (hS : s.heap.get? S = some o) (hd : o.data = .set es ep t) (hf : t.fits es.size = true)
    {e : Int × Value} (he : (ordT w S ep es)[i]? = some e)
    (k : ∀ h', h'.get? I = some (itObj (rawInt 0) (i + 1) S es.size ep) → Heap.SameBut I s.heap h' → Q (some e.2) { s with heap := h' }) : wpAny (model prog w) A (pyNext (.ref I)) Q E s := by
  have hT : s.TypeIs (.ref I) "set_iterator" := ⟨_, hi, rfl⟩
  unfold pyNext
  refine wpAny_bind (wpAny_attempt (wpAny_callSpecial?_slot (name := Str.ofString "__next__") hT slot_si_next (wpAny_call_entry slot_si_next hT entry_si_next ?_ (args_si_next _))))
  unfold Builtin.«set_iterator.__next__»
  refine wpAny_bind (m := slotArgs "__next__" 0 _) (wpAny_pure ?_)
  refine wpAny_bind (wpAny_fieldsOf hi rfl ?_)
  dsimp only [List.toArray, rawInt]
  refine wpAny_bind (wpAny_setEntries_of hS hd hf ?_)
  rw [if_neg (by simp)]
  refine wpAny_bind (setNext_text (i := i) (ep := ep) ht hS hd hf ?_)
  rw [he]
  dsimp only [Option.map]
  refine wpAny_bind (wpAny_setField hi rfl (by show 0 < 5; decide) ?_)
  refine wpAny_bind (wpAny_setField (Heap.get?_update_self _ hi rfl) rfl (by show 1 < 5; decide) ?_)
  refine wpAny_pure ⟨_, rfl, wpAny_pure (k _ ?_ ((Heap.SameBut.update ..).trans (Heap.SameBut.update ..)))⟩
  rw [Heap.get?_update_self _ (Heap.get?_update_self _ hi rfl) rfl]
  rfl
theorem end_text {I S : Addr} {o : Obj} {es : Array (Int × Value)} {ep i : Nat} {t : SetTable} {Q : Option Value → Shared → Prop} (hh : A.handled = none) (ht : w.params.followText "set-order" = true) (hi : s.heap.get? I = some (itObj (rawInt 0) i S es.size ep)) (hS : s.heap.get? S = some o) (hd : o.data = .set es ep t) (hf : t.fits es.size = true)
    (he : (ordT w S ep es)[i]? = none)
    (k : ∀ h', Heap.ExtBut I s.heap h' → Q none { s with heap := h' }) : wpAny (model prog w) A (pyNext (.ref I)) Q E s := by
  have hT : s.TypeIs (.ref I) "set_iterator" := ⟨_, hi, rfl⟩
  unfold pyNext
  refine wpAny_bind (wpAny_attempt (wpAny_callSpecial?_slot (name := Str.ofString "__next__") hT slot_si_next (wpAny_call_entry slot_si_next hT entry_si_next ?_ (args_si_next _))))
  unfold Builtin.«set_iterator.__next__»
  refine wpAny_bind (m := slotArgs "__next__" 0 _) (wpAny_pure ?_)
  refine wpAny_bind (wpAny_fieldsOf hi rfl ?_)
  dsimp only [List.toArray, rawInt]
  refine wpAny_bind (wpAny_setEntries_of hS hd hf ?_)
  rw [if_neg (by simp)]
  refine wpAny_bind (setNext_text (i := i) (ep := ep) ht hS hd hf ?_)
  rw [he]
  dsimp only [Option.map]
  refine wpAny_bind (wpAny_setField hi rfl (by show 2 < 5; decide) ?_)
  exact stop_new hh fun h' xb' => k h' fun b o nb q => xb' b o ((Heap.SameBut.update ..).extBut b o nb q)
theorem iter_self {I S : Addr} {v : Value} {i n ep : Nat} {Q : Value → Shared → Prop} (hi : s.heap.get? I = some (itObj v i S n ep)) (h : Q (.ref I) s) : wpAny (model prog w) A (pyIter (.ref I)) Q E s := by
  have hT : s.TypeIs (.ref I) "set_iterator" := ⟨_, hi, rfl⟩
  refine wpAny_pyIter_slot hT slot_si_iter (wpAny_call_entry slot_si_iter hT entry_si_iter ?_ (args_si_iter _))
  show wpAny _ _ (ret (.ref I)) _ _ s
  exact wpAny_pure ⟨_, rfl, "set_iterator", _, hT, slot_si_next.lookup, h⟩
end
end L2T
/-! A set of texts collected: all its members, in some order. -/
namespace L2T
set_option autoImplicit false
set_option maxRecDepth 100000
open PySem PyProof.Rows
theorem get_range {es : Array (Int × Value)} {pl : List Nat} (hp : pl.Perm (List.range es.size)) {i p : Nat} (h : pl[i]? = some p) : ∃ e, es[p]? = some e := by
  have m : p ∈ List.range es.size := hp.mem_iff.mp (List.mem_of_getElem? h)
  exact ⟨es[p]'(List.mem_range.mp m), Array.getElem?_eq_getElem _⟩
def valAt (es : Array (Int × Value)) (p : Nat) : Value := (es[p]?.map (·.2)).getD .none
theorem range_vals (es : Array (Int × Value)) : (List.range es.size).map (valAt es) = es.toList.map (·.2) := by
  apply List.ext_getElem
  · simp
  · intro i h1 h2
    have hi : i < es.size := by simpa using h1
    simp [valAt, Array.getElem?_eq_getElem hi]
section
variable {prog : Program} {w : World} {A : Around} {E : Value → Shared → Prop} {s : Shared}
theorem walksD (hh : A.handled = none) {I S F : Addr} (n1 : S ≠ I) (n2 : F ≠ I) {o : Obj} {es : Array (Int × Value)} {ep : Nat} {t : SetTable} (hd : o.data = .set es ep t) (hf : t.fits es.size = true) {pl : List Nat} (hp : pl.Perm (List.range es.size)) :
    Walks prog w A I [I, S, F] [I] (pl.map (valAt es)).length (fun i v => (pl.map (valAt es))[i]? = some v) (fun i h => h.get? I = some (itObj (.ref F) i S es.size ep) ∧ h.get? S = some o ∧ h.get? F = some { cls := .type "tuple", data := .seq (pl.map fun (j : Nat) => rawInt j).toArray }) where
  sub := fun b hb => by simp at hb; simp [hb]
  frame := fun _ _ _ st hk => ⟨hk I (by simp) _ st.1, hk S (by simp) _ st.2.1, hk F (by simp) _ st.2.2⟩
  item := fun i s Q E hi st hQ => by
    have hi' : i < pl.length := by simpa using hi
    have e1 : pl[i]? = some pl[i] := List.getElem?_eq_getElem hi'
    obtain ⟨e, he⟩ := get_range hp e1
    refine next_drawn st.1 st.2.1 hd hf st.2.2 e1 he fun h' a b => ?_
    refine hQ _ h' s.toks ?_ ⟨a, b.extBut S _ n1 st.2.1, b.extBut F _ n2 st.2.2⟩ fun c o hc e => b.extBut c o (fun h => hc (by simp [h])) e
    rw [List.getElem?_map, e1, Option.map_some, valAt, he]; rfl
  done := fun s Q E st hQ => end_drawn hh st.1 st.2.1 hd hf st.2.2 (List.getElem?_eq_none (by simp)) fun h' b => hQ h' s.toks fun c o hc e => b c o (fun h => hc (by simp [h])) e
  self := fun _ _ _ _ st hQ => iter_self st.1 hQ
theorem walksT (hh : A.handled = none) (ht : w.params.followText "set-order" = true) {I S : Addr} (n1 : S ≠ I) {o : Obj} {es : Array (Int × Value)} {ep : Nat} {t : SetTable} (hd : o.data = .set es ep t) (hf : t.fits es.size = true) :
    Walks prog w A I [I, S] [I] ((ordT w S ep es).toList.map (·.2)).length (fun i v => ((ordT w S ep es).toList.map (·.2))[i]? = some v) (fun i h => h.get? I = some (itObj (rawInt 0) i S es.size ep) ∧ h.get? S = some o) where
  sub := fun b hb => by simp at hb; simp [hb]
  frame := fun _ _ _ st hk => ⟨hk I (by simp) _ st.1, hk S (by simp) _ st.2⟩
  item := fun i s Q E hi st hQ => by
    have hi' : i < (ordT w S ep es).size := by simpa using hi
    have e1 : (ordT w S ep es)[i]? = some (ordT w S ep es)[i] := Array.getElem?_eq_getElem hi'
    refine next_text ht st.1 st.2 hd hf e1 fun h' a b => ?_
    refine hQ _ h' s.toks ?_ ⟨a, b.extBut S _ n1 st.2⟩ fun c o hc e => b.extBut c o (fun h => hc (by simp [h])) e
    rw [List.getElem?_map, Array.getElem?_toList, e1]; rfl
  done := fun s Q E st hQ => end_text hh ht st.1 st.2 hd hf (Array.getElem?_eq_none (by simp)) fun h' b => hQ h' s.toks fun c o hc e => b c o (fun h => hc (by simp [h])) e
  self := fun _ _ _ _ st hQ => iter_self st.1 hQ
theorem iter_set {S : Addr} {l : List Str} {Q : Value → Shared → Prop} (X : SetX prog w s.heap S l) (h2 : 2 ≤ l.length)
    (k : ∀ (h' : Heap) d (I : Addr) (fp : List Addr) (St : Nat → Heap → Prop) (vs : List Value) (ls : List Str), (∀ b o, s.heap.get? b = some o → h'.get? b = some o) → (∀ b ∈ fp, b = S ∨ s.heap.objs.size ≤ b) → s.heap.objs.size ≤ I →
      (∀ A' : Around, A'.handled = none → Walks prog w A' I fp [I] vs.length (fun i v => vs[i]? = some v) St) → St 0 h' → StrsAre vs ls → ls.Perm l → vs.length ≤ sizeLine → Q (.ref I) { s with heap := h', drawn := d }) :
    wpAny (model prog w) A (pyIter (.ref S)) Q E s := by
  obtain ⟨o, es, ep, t, ks, ho, hx, hd, _, hs, hp, hb, hf, hpl⟩ := X.ex
  have hlen : es.size = l.length := by
    have e1 := StrsAre.length hs
    have e2 := hp.length_eq
    rw [List.length_map, Array.length_toList] at e1
    omega
  have hb' : es.size ≤ sizeLine := by
    have : scanBound ≤ sizeLine := by rw [sizeLine_eq]; decide
    omega
  have hplain : t.plain = false := by rcases hpl with h | h; · exact h
                                      · omega
  have hT : s.TypeIs (.ref S) "set" := ⟨o, ho, hx.1⟩
  have hS : S < s.heap.objs.size := Heap.lt_size ho
  refine wpAny_pyIter_slot hT slot_set_iter (wpAny_call_entry slot_set_iter hT entry_set_iter ?_ (args_set_iter _))
  unfold Builtin.«frozenset.__iter__» Builtin.Frozenset.slot0 slotArgs
  simp only [List.isEmpty_nil, Bool.not_true, Bool.false_eq_true, ↓reduceIte, bind_assoc, List.length_nil, bne_self_eq_false]
  unfold Builtin.Frozenset.addrOf Builtin.Frozenset.sizeOf
  refine wpAny_bind (wpAny_pure ?_)
  try dsimp only
  refine wpAny_bind (wpAny_pure ?_)
  refine wpAny_bind (wpAny_bind (wpAny_setEntries_of ho hd hf (wpAny_pure ?_)))
  rw [setDrawn_eq]
  refine wpAny_bind (wpAny_bind (wpAny_setState_of ho hd hf ?_))
  refine wpAny_bind (wpAny_bind (wpAny_askSetting (wpAny_pure ?_)))
  dsimp only
  have hdr : drawn' es t = true := by unfold drawn'; rw [hplain]; simp; omega
  rw [hdr]
  cases ht : w.params.followText "set-order" with
  | true =>
    refine wpAny_pure ?_
    rw [show (!(model prog w).w.params.followText "set-order" && true) = false by rw [show (model prog w).w = w from rfl, ht]; rfl, if_neg (by decide)]
    refine wpAny_bind (wpAny_pure ?_)
    refine wpAny_bind (wpAny_bind (wpAny_setState_of ho hd hf (wpAny_pure ?_)))
    refine wpAny_bind (wpAny_newObj_type (wpAny_pure ⟨_, rfl, "set_iterator", _, ⟨_, Heap.get?_push_size _ rfl, rfl⟩, slot_si_next.lookup, ?_⟩))
    obtain ⟨ls, q1, q2⟩ := strs_perm hs ((pick_perm (w.params.setOrder S ep) es).map (·.2))
    refine k _ s.drawn s.heap.objs.size [s.heap.objs.size, S] _ _ ls (fun b o e => Heap.get?_push_of_some _ e) (fun b hb => ?_) (Nat.le_refl _) (fun A' hh => walksT hh ht (Nat.ne_of_lt hS) hd hf) ⟨Heap.get?_push_size _ rfl, Heap.get?_push_of_some _ ho⟩ q1 (q2.trans hp) ?_
    · rcases List.mem_cons.mp hb with h | h
      · right; rw [h]; exact Nat.le_refl _
      · left; exact List.mem_singleton.mp h
    · show (List.map _ (pickOrder (w.params.setOrder S ep) es).toList).length ≤ _
      rw [q1.length, q2.length_eq, hp.length_eq, ← hlen]; exact hb'
  | false =>
    refine wpAny_pure ?_
    rw [show (!(model prog w).w.params.followText "set-order" && true) = true by rw [show (model prog w).w = w from rfl, ht]; rfl, if_pos rfl]
    refine wpAny_bind (drawOrder_perm es.size (List.range es.size) s (by simp) fun pl d hpp => ?_)
    have hpl' : pl.length = es.size := by rw [hpp.length_eq, List.length_range]
    refine wpAny_bind (wpAny_newTuple ?_ (by rw [List.length_map, hpl']; exact hb'))
    have ho1 := Heap.get?_push_of_some { cls := .type "tuple", data := .seq (pl.map fun (j : Nat) => rawInt j).toArray : Obj } ho
    refine wpAny_bind (wpAny_bind (wpAny_setState_of (s := ⟨s.heap.push { cls := .type "tuple", data := .seq (pl.map fun (j : Nat) => rawInt j).toArray }, s.gens, d, s.toks, s.os⟩) ho1 hd hf (wpAny_pure ?_)))
    refine wpAny_bind (wpAny_newObj_type (wpAny_pure ⟨_, rfl, "set_iterator", _, ⟨_, Heap.get?_push_size _ rfl, rfl⟩, slot_si_next.lookup, ?_⟩))
    have pv : (pl.map (valAt es)).Perm (es.toList.map (·.2)) := by rw [← range_vals]; exact hpp.map _
    obtain ⟨ls, q1, q2⟩ := strs_perm hs pv
    have hz : (s.heap.push { cls := .type "tuple", data := .seq (pl.map fun (j : Nat) => rawInt j).toArray }).objs.size = s.heap.objs.size + 1 := Heap.size_push ..
    dsimp only
    refine k _ d _ [_, S, s.heap.objs.size] _ _ ls (fun b o e => Heap.get?_push_of_some _ (Heap.get?_push_of_some _ e)) (fun b hb => ?_) (by rw [hz]; exact Nat.le_succ _) (fun A' hh => walksD (F := s.heap.objs.size) (pl := pl) hh ?_ ?_ hd hf hpp) ⟨Heap.get?_push_size _ rfl, Heap.get?_push_of_some _ ho1, Heap.get?_push_of_some _ (Heap.get?_push_size _ rfl)⟩ q1 (q2.trans hp) ?_
    · rcases List.mem_cons.mp hb with h | h
      · right; rw [h, hz]; exact Nat.le_succ _
      · rcases List.mem_cons.mp h with h | h
        · left; exact h
        · right; rw [List.mem_singleton.mp h]; exact Nat.le_refl _
    · rw [hz]; exact Nat.ne_of_lt (Nat.lt_succ_of_lt hS)
    · rw [hz]; exact Nat.ne_of_lt (Nat.lt_succ_self _)
    · rw [q1.length, q2.length_eq, hp.length_eq, ← hlen]; exact hb'
theorem collect_set {S : Addr} {l : List Str} {Q : List Value → Shared → Prop} (hh : A.handled = none) (X : SetX prog w s.heap S l) (h2 : 2 ≤ l.length)
    (hQ : ∀ (s' : Shared) (vs : List Value) (ls : List Str), (∀ b o, s.heap.get? b = some o → s'.heap.get? b = some o) → s'.gens = s.gens → s'.os = s.os → s.heap.objs.size ≤ s'.heap.objs.size → StrsAre vs ls → ls.Perm l → vs.length ≤ sizeLine → Q vs s') :
    wpAny (model prog w) A (collect (.ref S)) Q E s := by
  have X0 := X
  obtain ⟨o, es, ep, t, ks, ho, hx, _⟩ := X0.ex
  have hS : S < s.heap.objs.size := Heap.lt_size ho
  unfold collect
  refine wpAny_bind (wpAny_runValue (codeAny_builtin F.entry_proto_collect ?_))
  rw [Around.under_plainId F.plain_proto_collect _]
  show wpAny _ A.in1 (newList [] >>= fun l => again (.builtin "list.__iadd__" ⟨[l, .ref S], []⟩)) _ _ s
  refine wpAny_bind (wpAny_newObj_type ?_)
  refine wpAny_pure ⟨plainId_quiet F.plain_list_iadd _, codeAny_builtin F.entry_list_iadd ?_⟩
  rw [Around.under_plainId F.plain_list_iadd _]
  show wpAny _ A.in1 (Builtin.List.listExtendWith (.ref s.heap.objs.size) (.ref S) (.ref s.heap.objs.size)) _ _ _
  unfold Builtin.List.listExtendWith
  generalize hH : s.heap.push { cls := .type "list", data := .seq ([] : List Value).toArray } = H
  have hHs : H.objs.size = s.heap.objs.size + 1 := by rw [← hH, Heap.size_push]
  have up : ∀ b o, s.heap.get? b = some o → H.get? b = some o := fun b o e => by rw [← hH]; exact Heap.get?_push_of_some _ e
  have hT : Shared.TypeIs ⟨H, s.gens, s.drawn, s.toks, s.os⟩ (.ref S) "set" := ⟨o, up _ _ ho, hx.1⟩
  refine wpAny_bind (wpAny_typeOf hT ?_)
  have h1 : Builtin.List.listSameRef (.ref s.heap.objs.size) (.ref S) = false := by simp [Builtin.List.listSameRef, Nat.ne_of_gt hS]
  have h2' : (Value.type "set" == Value.type "list") = false := by decide
  have h3 : (Value.type "set" == Value.type "tuple") = false := by decide
  simp only [h1, h2', h3, Bool.or_false, Bool.false_eq_true, if_false]
  refine wpAny_bind (iter_set (s := ⟨H, s.gens, s.drawn, s.toks, s.os⟩) (X.keeps fun o e => up _ _ e) h2 fun h' d I fp St vs ls up' hfp hI W hst hs hp hz => ?_)
  have hT' : Shared.TypeIs ⟨h', s.gens, d, s.toks, s.os⟩ (.ref S) "set" := ⟨o, up' _ _ (up _ _ ho), hx.1⟩
  refine wpAny_bind (wpAny_holding ?_)
  unfold Builtin.List.listLengthHint
  refine wpAny_bind (wpAny_specialOf hT' len_set ?_)
  wp_delta
  refine wpAny_bind (wpAny_isInstance (T := "set") (b := true) hT' (by rw [isSubtype_type]; kernel_rfl) ?_)
  show wpAny _ A.in1 (typeOf (Value.ref S) >>= _) _ _ _
  refine wpAny_bind (wpAny_typeOf hT' ?_)
  refine wpAny_pure ?_
  rw [if_pos (by decide)]
  have hSf : s.heap.objs.size ∉ fp := fun hm => by
    rcases hfp _ hm with h | h
    · exact absurd h (Nat.ne_of_gt hS)
    · dsimp only at h; rw [hHs] at h; exact absurd h (Nat.not_le_of_gt (Nat.lt_succ_self _))
  have hN : h'.get? s.heap.objs.size = some { cls := .type "list", data := .seq ([] : List Value).toArray } := up' _ _ (by rw [← hH]; exact Heap.get?_push_size _ rfl)
  refine wpAny_bind (wpAny_rule ?_)
  refine wpAny_bind ?_
  show wpAny _ A.in1 (updateSeq s.heap.objs.size (·.push .none) >>= fun _ => updateSeq s.heap.objs.size (·.pop)) _ _ _
  refine wpAny_bind (wpAny_updateSeq hN rfl ?_)
  have hN2 := Heap.get?_update_self (Obj.mapSeq (·.push Value.none)) hN rfl
  refine wpAny_updateSeq hN2 rfl ?_
  have hN3 := Heap.get?_update_self (Obj.mapSeq (·.pop)) hN2 rfl
  have oth : ∀ b o, b ≠ s.heap.objs.size → h'.get? b = some o → ((h'.update s.heap.objs.size (Obj.mapSeq (·.push Value.none))).update s.heap.objs.size (Obj.mapSeq (·.pop))).get? b = some o :=
    fun b o hb e => (Heap.get?_update_other _ _ (Ne.symm hb)).trans ((Heap.get?_update_other _ _ (Ne.symm hb)).trans e)
  have hst2 := (W A.in1 hh).frame 0 _ _ hst fun b hb o e => oth b o (fun h => hSf (h ▸ hb)) e
  refine wpAny_pure ⟨plainId_quiet F.plain_extend_loop _, codeAny_extend_loopS (W A.in1 hh).toS hz _ hSf _ vs.length 0 _ _ _ rfl (Nat.zero_le _) hst2 hN3 (ItemsOf.nil _) fun s' acc' c' hm hS' hacc => ?_⟩
  show wpAny _ A (load s.heap.objs.size >>= _) _ _ s'
  refine wpAny_bind (wpAny_load hS' ?_)
  have hav : acc'.toList = vs := by
    apply List.ext_getElem?
    intro i
    rw [Array.getElem?_toList]
    by_cases hi : i < vs.length
    · have := hacc.2 i acc'[i]! (by rw [Array.getElem?_eq_getElem (by rw [hacc.1]; exact hi)]; simp [hacc.1, hi])
      rw [this, Array.getElem?_eq_getElem (by rw [hacc.1]; exact hi)]; simp [hacc.1, hi]
    · rw [List.getElem?_eq_none (by omega), Array.getElem?_eq_none (by rw [hacc.1]; omega)]
  refine wpAny_pure ?_
  show Q acc'.toList s'
  rw [hav]
  refine hQ s' vs ls (fun b ob e => hm.heap b ob (fun hb => ?_) (oth _ _ (Nat.ne_of_lt (Heap.lt_size e)) (up' _ _ (up _ _ e)))) hm.gens hm.os (Nat.le_of_lt (Heap.lt_size hS')) hs hp hz
  have hlt := Heap.lt_size e
  rcases List.mem_cons.mp hb with h | h
  · exact absurd hlt (h ▸ Nat.lt_irrefl _)
  · rw [List.mem_singleton.mp h] at hlt
    dsimp only at hI
    rw [hHs] at hI
    exact absurd hlt (Nat.not_lt.mpr (Nat.le_of_succ_le hI))
end
end L2T
/-! sorted(set(texts)) over the layer. -/
namespace L2T
set_option autoImplicit false
set_option maxRecDepth 100000
open PySem PySem.Spec PyProof.Rows L2 L2S
/-- texts in order -/
def leS (a b : Str) : Prop := a.cps.toList ≤ b.cps.toList
theorem leS_of {a b : Str} (h : ltCps b.cps.toList a.cps.toList = false) : leS a b := by
  rw [ltCps_eq] at h
  exact List.not_lt.mp (of_decide_eq_false h)
theorem leS_anti {a b : Str} (h : leS a b) (h' : leS b a) : a = b := by
  have e := List.le_antisymm h h'
  obtain ⟨⟨x⟩⟩ := a
  obtain ⟨⟨y⟩⟩ := b
  simp only at e
  rw [e]
theorem rising_pw : ∀ (p : Str) (l : List Str), risingS p l = true → (p :: l).Pairwise leS
  | p, [], _ => List.pairwise_singleton _ _
  | p, x :: r, h => by
    have h' : (!ltCps x.cps.toList p.cps.toList && risingS x r) = true := h
    rw [Bool.and_eq_true] at h'
    have px : leS p x := leS_of (by simpa using h'.1)
    have ih := rising_pw x r h'.2
    refine List.pairwise_cons.mpr ⟨fun y hy => ?_, ih⟩
    rcases List.mem_cons.mp hy with e | hy
    · rw [e]; exact px
    · exact List.le_trans px ((List.pairwise_cons.mp ih).1 y hy)
theorem sorted_pw (l : List Str) (h : sortedS l = true) : l.Pairwise leS := by
  cases l with
  | nil => exact List.Pairwise.nil
  | cons x r => exact rising_pw x r h
theorem pw_uniq : ∀ {l m : List Str}, l.Perm m → l.Pairwise leS → m.Pairwise leS → l = m
  | [], m, p, _, _ => (List.nil_perm.mp p).symm
  | a :: l, [], p, _, _ => absurd p.length_eq (by simp)
  | a :: l, b :: m, p, h, h' => by
    have hab : leS a b := by
      rcases List.mem_cons.mp (p.mem_iff.mpr List.mem_cons_self : b ∈ a :: l) with e | e
      · rw [e]; exact List.le_refl _
      · exact (List.pairwise_cons.mp h).1 b e
    have hba : leS b a := by
      rcases List.mem_cons.mp (p.mem_iff.mp List.mem_cons_self : a ∈ b :: m) with e | e
      · rw [e]; exact List.le_refl _
      · exact (List.pairwise_cons.mp h').1 a e
    have e := leS_anti hab hba
    subst e
    rw [pw_uniq (List.Perm.cons_inv p) (List.pairwise_cons.mp h).2 (List.pairwise_cons.mp h').2]
/-- one order only -/
theorem sorted_uniq {l m : List Str} (p : l.Perm m) (h : sortedS l = true) (h' : sortedS m = true) : l = m := pw_uniq p (sorted_pw l h) (sorted_pw m h')
theorem vals_strs : ∀ {ts : List Str} {us : List Value}, Vals (ts.map V.str) us → StrsAre us ts
  | [], _, r => by cases r; exact .nil
  | t :: ts, _, r => by
    cases r with
    | cons h r =>
      obtain ⟨k, rfl⟩ := h
      exact .cons t k (vals_strs r)
theorem strs_vals : ∀ {ts : List Str} {us : List Value}, StrsAre us ts → Vals (ts.map V.str) us
  | _, _, .nil => .nil
  | _, _, .cons t k h => .cons ⟨k, rfl⟩ (strs_vals h)
section
variable {X : Cx}
/-- set(xs), xs being texts -/
theorem call_setT (hc : X.calm = true) : CallR X (.type "set") (fun xs H Q => ∃ p ts, xs = [.ref p] ∧ SqL X.K H p (ts.map V.str) ∧ ts.length + 1 < scanBound ∧ ∀ a, H a = none → Q (.ref a) (upd H a (.ext fun h => SetX X.prog X.w h a (ded ts)))) := by
  intro pins s σ H xs us Q I r h
  obtain ⟨p, ts, rfl, hq, hb, q⟩ := h
  obtain ⟨u, rfl, rx⟩ := vals1 r
  cases rx
  obtain ⟨its, r', pl, hz⟩ := I.list hq
  have hlen := r'.length
  refine call_set_texts (ss := ts) (I.ok.hd hc) pl.isList (vals_strs r') (by rw [List.size_toArray]; rw [List.length_map] at hlen; omega) fun h' tk SX kp => ?_
  refine ⟨.ref s.heap.objs.size, _, I.laid (t' := tk) kp (Nat.le_refl _) ?_, rfl, q _ (I.hok.fresh (Nat.le_refl _))⟩
  refine ⟨SX, ?_, fun h1 h2 x k => SetX.keeps x k⟩
  obtain ⟨o, _, _, _, _, e, _⟩ := SX.ex
  exact ⟨o, e⟩
/-- sorted(s), s being a set of texts, two or more -/
theorem call_sortedT (hc : X.calm = true) : CallR X (.builtin "sorted") (fun xs H Q => ∃ a l φ, xs = [.ref a] ∧ H a = some (.ext φ) ∧ (∀ h, φ h → SetX X.prog X.w h a l) ∧ 2 ≤ l.length ∧ ∀ b ss, H b = none → ss.Perm l → sortedS ss = true → Q (.ref b) (upd H b (.lst (ss.map V.str)))) := by
  intro pins s σ H xs us Q I r h
  obtain ⟨a, l, φ, rfl, ha, hφ, h2, q⟩ := h
  obtain ⟨u, rfl, rx⟩ := vals1 r
  cases rx
  obtain ⟨hx, _, _⟩ : φ s.heap ∧ _ ∧ _ := I.hok a _ ha
  refine sorted_texts (collect_set (A := X.A.in1) (show X.A.in1.handled = none from I.ok.hd hc) (hφ _ hx) h2 fun s' vs ls kp hg ho hle hs hp hz => ⟨hz, ls, hs, fun h' vs' ss' m kp' e hs' hp' hso => ?_⟩)
  have kk : ∀ b o, s.heap.get? b = some o → h'.get? b = some o := fun b o z => kp' b o (kp b o z)
  have new : ObjOk X.prog X.w (upd H s'.heap.objs.size (.lst (ss'.map V.str))) h' s'.heap.objs.size (.lst (ss'.map V.str)) := ⟨by rw [List.length_map, hp'.length_eq, ← hs.length]; exact hz, vs', m, strs_vals hs', e⟩
  refine ⟨.ref s'.heap.objs.size, _, I.call' (s' := ⟨h', s'.gens, s'.drawn, s'.toks, s'.os⟩) (ch := []) ho (Un.laid kk hle (I.hok.fresh hle)) (I.hok.laid kk hle new) (by show AllBare s'.gens; rw [hg]; exact I.bare) (fun b hb => by cases hb), rfl, q _ _ (I.hok.fresh hle) (hp'.trans hp) hso⟩
end
end L2T
namespace FW

/-- the most first letters of w, at most k, that stand at the end of t -/
def lngFrom (w t : List Nat) : Nat → Nat
  | 0 => 0
  | k + 1 => if (w.take (k + 1)) <:+ t then k + 1 else lngFrom w t k
def lng (w t : List Nat) : Nat := lngFrom w t w.length
def bord (w : List Nat) (k : Nat) : Nat := lng w ((w.take k).drop 1)

theorem lngFrom_le (w t : List Nat) : ∀ k, lngFrom w t k ≤ k
  | 0 => Nat.le_refl _
  | k + 1 => by
    unfold lngFrom
    split
    · exact Nat.le_refl _
    · exact Nat.le_succ_of_le (lngFrom_le w t k)
theorem lngFrom_suf (w t : List Nat) : ∀ k, w.take (lngFrom w t k) <:+ t
  | 0 => by simp [lngFrom]
  | k + 1 => by
    unfold lngFrom
    split
    · assumption
    · exact lngFrom_suf w t k
theorem lngFrom_max (w t : List Nat) : ∀ k j, j ≤ k → w.take j <:+ t → j ≤ lngFrom w t k
  | 0, j, h, _ => h
  | k + 1, j, h, hs => by
    unfold lngFrom
    split
    · exact h
    · rename_i hn
      by_cases e : j = k + 1
      · subst e; exact absurd hs hn
      · exact lngFrom_max w t k j (by omega) hs
theorem lng_le (w t : List Nat) : lng w t ≤ w.length := lngFrom_le _ _ _
theorem lng_suf (w t : List Nat) : w.take (lng w t) <:+ t := lngFrom_suf _ _ _
theorem lng_max {w t : List Nat} {j : Nat} (h : j ≤ w.length) (hs : w.take j <:+ t) : j ≤ lng w t := lngFrom_max _ _ _ _ h hs
theorem lng_le_t (w t : List Nat) : lng w t ≤ t.length := by
  have h := (lng_suf w t).length_le
  rw [List.length_take] at h
  have := lng_le w t
  omega
/-- it is the one -/
theorem lng_eq {w t : List Nat} {k : Nat} (h : k ≤ w.length) (hs : w.take k <:+ t) (hm : ∀ j, j ≤ w.length → w.take j <:+ t → j ≤ k) : lng w t = k :=
  Nat.le_antisymm (hm _ (lng_le w t) (lng_suf w t)) (lng_max h hs)
theorem lng_nil (w : List Nat) : lng w [] = 0 := by have := lng_le_t w []; simpa using this

theorem suf_snoc {u t : List Nat} {a c : Nat} : u ++ [a] <:+ t ++ [c] ↔ u <:+ t ∧ a = c := by
  constructor
  · rintro ⟨s, h⟩
    rw [← List.append_assoc] at h
    have h1 := List.append_inj' h rfl
    refine ⟨⟨s, h1.1⟩, ?_⟩
    have := h1.2
    simpa using this
  · rintro ⟨⟨s, h⟩, e⟩
    subst e
    exact ⟨s, by rw [← List.append_assoc, h]⟩
theorem take_succ_suf {w t : List Nat} {k c : Nat} (hk : k < w.length) : w.take (k + 1) <:+ t ++ [c] ↔ w.take k <:+ t ∧ w[k]? = some c := by
  have e : w.take (k + 1) = w.take k ++ [w[k]] := by rw [List.take_succ_eq_append_getElem hk]
  rw [e, suf_snoc, List.getElem?_eq_getElem hk]
  simp
theorem suf_of_le {a b t : List Nat} (ha : a <:+ t) (hb : b <:+ t) (h : a.length ≤ b.length) : a <:+ b := List.suffix_of_suffix_length_le ha hb h
theorem len_take {w : List Nat} {k : Nat} (h : k ≤ w.length) : (w.take k).length = k := by rw [List.length_take]; omega

/-- a proper beginning that stands at the end of a beginning -/
theorem suf_drop {w : List Nat} {j k : Nat} (hk : k ≤ w.length) (hj : j < k) : w.take j <:+ w.take k ↔ w.take j <:+ (w.take k).drop 1 := by
  have lk := len_take hk
  have lj : (w.take j).length = j := len_take (by omega)
  have hd : (w.take k).drop 1 <:+ w.take k := List.drop_suffix _ _
  constructor
  · intro h
    exact suf_of_le h hd (by rw [List.length_drop]; omega)
  · intro h
    exact h.trans hd
theorem bord_lt {w : List Nat} {k : Nat} (hk : k ≤ w.length) (h0 : 0 < k) : bord w k < k := by
  have := lng_le_t w ((w.take k).drop 1)
  rw [List.length_drop, len_take hk] at this
  unfold bord
  omega
theorem bord_suf {w : List Nat} {k : Nat} (hk : k ≤ w.length) (h0 : 0 < k) : w.take (bord w k) <:+ w.take k :=
  (suf_drop hk (bord_lt hk h0)).mpr (lng_suf _ _)
theorem bord_max {w : List Nat} {j k : Nat} (hk : k ≤ w.length) (hj : j < k) (h : w.take j <:+ w.take k) : j ≤ bord w k :=
  lng_max (by omega) ((suf_drop hk hj).mp h)
theorem bord_zero (w : List Nat) : bord w 0 = 0 := by simp [bord, lng_nil]
theorem bord_one (w : List Nat) : bord w 1 = 0 := by
  cases w with
  | nil => simp [bord, lng_nil]
  | cons a r => simp [bord, lng_nil]

/-- one letter more: what stood there before is enough to know -/
theorem lng_snoc {w t : List Nat} {c : Nat} : lng w (w.take (lng w t) ++ [c]) = lng w (t ++ [c]) := by
  have hr := lng_le w t
  have key : ∀ j, j ≤ w.length → (w.take j <:+ w.take (lng w t) ++ [c] ↔ w.take j <:+ t ++ [c]) := by
    intro j hj
    cases j with
    | zero => simp
    | succ k =>
      rw [take_succ_suf (by omega), take_succ_suf (by omega)]
      constructor
      · rintro ⟨h1, h2⟩
        exact ⟨h1.trans (lng_suf w t), h2⟩
      · rintro ⟨h1, h2⟩
        have hk : k ≤ lng w t := lng_max (by omega) h1
        exact ⟨suf_of_le h1 (lng_suf w t) (by rw [len_take (by omega), len_take hr]; exact hk), h2⟩
  refine Nat.le_antisymm ?_ ?_
  · exact lng_max (lng_le _ _) ((key _ (lng_le _ _)).mp (lng_suf _ _))
  · exact lng_max (lng_le _ _) ((key _ (lng_le _ _)).mpr (lng_suf _ _))

/-- between two turns of step's while: r stands there, and no beginning that goes on by c is longer -/
structure Going (w t : List Nat) (c r : Nat) : Prop where
  le : r ≤ w.length
  suf : w.take r <:+ t
  mx : ∀ k, k < w.length → w.take k <:+ t → w[k]? = some c → k ≤ r
theorem Going.start {w : List Nat} {c r : Nat} (h : r ≤ w.length) : Going w (w.take r) c r :=
  ⟨h, List.suffix_refl _, fun k hk hs _ => by
    have := hs.length_le
    rw [len_take (by omega), len_take h] at this
    exact this⟩
theorem Going.turn {w t : List Nat} {c r : Nat} (g : Going w t c r) (h0 : 0 < r) (hn : r = w.length ∨ w[r]? ≠ some c) : Going w t c (bord w r) := by
  have lt := bord_lt g.le h0
  refine ⟨by have := g.le; omega, (bord_suf g.le h0).trans g.suf, fun k hk hs hc => ?_⟩
  have hk' := g.mx k hk hs hc
  have ne : k ≠ r := by
    rintro rfl
    rcases hn with hn | hn
    · omega
    · exact hn hc
  have hlt : k < r := by omega
  exact bord_max g.le hlt (suf_of_le hs g.suf (by rw [len_take (by omega), len_take g.le]; omega))
theorem Going.yes {w t : List Nat} {c r : Nat} (g : Going w t c r) (hr : r < w.length) (hc : w[r]? = some c) : lng w (t ++ [c]) = r + 1 := by
  refine lng_eq (by omega) ((take_succ_suf hr).mpr ⟨g.suf, hc⟩) fun j hj hs => ?_
  cases j with
  | zero => omega
  | succ k =>
    obtain ⟨h1, h2⟩ := (take_succ_suf (by omega)).mp hs
    have := g.mx k (by omega) h1 h2
    omega
theorem Going.no {w t : List Nat} {c : Nat} (g : Going w t c 0) (hc : w[0]? ≠ some c) : lng w (t ++ [c]) = 0 := by
  refine lng_eq (Nat.zero_le _) (by simp) fun j hj hs => ?_
  cases j with
  | zero => omega
  | succ k =>
    obtain ⟨h1, h2⟩ := (take_succ_suf (by omega)).mp hs
    have := g.mx k (by omega) h1 h2
    have e : k = 0 := by omega
    subst e
    exact absurd h2 hc

/-- the tables -/
def shTab (w : List Nat) (n : Nat) : List Nat := (List.range n).map (bord w)
def reTab (w t : List Nat) (n : Nat) : List Nat := (List.range n).map fun i => lng w (t.take i)
theorem range_map_succ {α : Type} (f : Nat → α) (n : Nat) : (List.range (n + 1)).map f = (List.range n).map f ++ [f n] := by
  rw [List.range_succ, List.map_append]; rfl
theorem shTab_succ (w : List Nat) (n : Nat) : shTab w (n + 1) = shTab w n ++ [bord w n] := range_map_succ _ _
theorem reTab_succ (w t : List Nat) (n : Nat) : reTab w t (n + 1) = reTab w t n ++ [lng w (t.take n)] := range_map_succ _ _
theorem shTab_two (w : List Nat) : shTab w 2 = [0, 0] := by simp [shTab, List.range_succ, bord_zero, bord_one]
theorem shTab_get {w : List Nat} {n k : Nat} (h : k < n) : (shTab w n)[k]? = some (bord w k) := by simp [shTab, h]
theorem reTab_get {w t : List Nat} {n k : Nat} (h : k < n) : (reTab w t n)[k]? = some (lng w (t.take k)) := by simp [reTab, h]
/-- the next of the table of the beginnings -/
theorem bord_next {w : List Nat} {i c : Nat} (hi : i + 1 < w.length) (hc : w[i + 1]? = some c) : lng w (w.take (bord w (i + 1)) ++ [c]) = bord w (i + 2) := by
  unfold bord
  rw [lng_snoc]
  congr 1
  have e : w.take (i + 2) = w.take (i + 1) ++ [c] := by
    rw [List.take_succ_eq_append_getElem hi]
    rw [List.getElem?_eq_getElem hi] at hc
    rw [Option.some.inj hc]
  rw [e, List.drop_append_of_le_length (by rw [len_take (by omega)]; omega)]
theorem lng_next {w t : List Nat} {i c : Nat} (hc : t[i]? = some c) : lng w (w.take (lng w (t.take i)) ++ [c]) = lng w (t.take (i + 1)) := by
  rw [lng_snoc]
  congr 1
  obtain ⟨hi, e⟩ := List.getElem?_eq_some_iff.mp hc
  rw [List.take_succ_eq_append_getElem hi, e]

/-! overlaps -/
def ovl (w : List Nat) : List Nat := (List.range' 1 w.length).filter fun m => decide (w.take m <:+ w)
def ovlFrom (w : List Nat) (c : Nat) : List Nat := (List.range' (c + 1) (w.length - c)).filter fun m => decide (w.take m <:+ w)
theorem ovlFrom_top (w : List Nat) : ovlFrom w w.length = [] := by simp [ovlFrom]
theorem ovlFrom_zero (w : List Nat) : ovlFrom w 0 = ovl w := by simp [ovlFrom, ovl]
theorem ovlFrom_skip {w : List Nat} {c d : Nat} (hc : c ≤ w.length) (hd : d < c) (hs : w.take c <:+ w) (hn : ∀ j, d < j → j < c → ¬ w.take j <:+ w) : ovlFrom w d = c :: ovlFrom w c := by
  unfold ovlFrom
  have e : List.range' (d + 1) (w.length - d) = List.range' (d + 1) (c - d - 1) ++ (c :: List.range' (c + 1) (w.length - c)) := by
    have h1 : c :: List.range' (c + 1) (w.length - c) = List.range' (d + 1 + (c - d - 1)) (w.length - c + 1) := by
      have : d + 1 + (c - d - 1) = c := by omega
      rw [this, List.range'_succ]
    rw [h1, List.range'_append_1]
    congr 1
    omega
  rw [e, List.filter_append, List.filter_cons, if_pos (by simpa using hs)]
  have z : (List.range' (d + 1) (c - d - 1)).filter (fun m => decide (w.take m <:+ w)) = [] := by
    rw [List.filter_eq_nil_iff]
    intro a ha
    have := List.mem_range'_1.mp ha
    simpa using hn a (by omega) (by omega)
  rw [z]; rfl
theorem ovlFrom_turn {w : List Nat} {c : Nat} (hc : c ≤ w.length) (h0 : 0 < c) (hs : w.take c <:+ w) : ovlFrom w (bord w c) = c :: ovlFrom w c :=
  ovlFrom_skip hc (bord_lt hc h0) hs fun j h1 h2 hj => by
    have := bord_max hc h2 (suf_of_le hj hs (by rw [len_take (by omega), len_take hc]; omega))
    omega
theorem ovl_len (w : List Nat) : (ovl w).length ≤ w.length := by
  have := List.length_filter_le (fun m => decide (w.take m <:+ w)) (List.range' 1 w.length)
  simpa [ovl] using this
theorem ovlFrom_len (w : List Nat) (c : Nat) : (ovlFrom w c).length ≤ w.length := by
  have := List.length_filter_le (fun m => decide (w.take m <:+ w)) (List.range' (c + 1) (w.length - c))
  rw [List.length_range'] at this
  unfold ovlFrom
  omega

/-! ends -/
def endsL (w t : List Nat) : List Nat := (List.range (t.length + 1)).filter fun i => decide (lng w (t.take i) = w.length)
theorem lng_full {w t : List Nat} : lng w t = w.length ↔ w <:+ t := by
  constructor
  · intro h
    have := lng_suf w t
    rw [h, List.take_length] at this
    exact this
  · intro h
    exact Nat.le_antisymm (lng_le w t) (lng_max (Nat.le_refl _) (by rw [List.take_length]; exact h))
/-- as the law looks for them -/
theorem endsL_eq {w t : List Nat} (hw : w ≠ []) : endsL w t = (List.range' 1 t.length).filter fun m => decide (w <:+ t.take m) := by
  unfold endsL
  have e : List.range (t.length + 1) = 0 :: List.range' 1 t.length := by
    rw [List.range_eq_range', List.range'_succ]
  rw [e, List.filter_cons, if_neg]
  · congr 1
    funext m
    exact decide_eq_decide.mpr lng_full
  · simp only [List.take_zero, lng_nil, decide_eq_true_eq]
    intro h
    exact hw (List.length_eq_zero_iff.mp h.symm)
theorem lng_self (w : List Nat) : lng w w = w.length := lng_full.mpr (List.suffix_refl _)
theorem endsL_nil {w : List Nat} (hw : w ≠ []) : endsL w [] = [] := by rw [endsL_eq hw]; rfl
end FW
/-! Overlap numbers: phi q w s is the sum of q^k over the counts k of first letters of w that stand at the end of s. -/
namespace FW
/-- sums over lists of numbers -/
def sumN (l : List Nat) (f : Nat → Nat) : Nat := (l.map f).sum
theorem sumN_nil (f : Nat → Nat) : sumN [] f = 0 := rfl
theorem sumN_cons (a : Nat) (l : List Nat) (f : Nat → Nat) : sumN (a :: l) f = f a + sumN l f := by simp [sumN]
theorem sumN_append (l m : List Nat) (f : Nat → Nat) : sumN (l ++ m) f = sumN l f + sumN m f := by
  induction l with
  | nil => simp [sumN]
  | cons a l ih => rw [List.cons_append, sumN_cons, sumN_cons, ih]; omega
theorem sumN_congr {l : List Nat} {f g : Nat → Nat} (h : ∀ x ∈ l, f x = g x) : sumN l f = sumN l g := by
  induction l with
  | nil => rfl
  | cons a l ih => rw [sumN_cons, sumN_cons, h a List.mem_cons_self, ih fun x hx => h x (List.mem_cons_of_mem _ hx)]
theorem sumN_add (l : List Nat) (f g : Nat → Nat) : sumN l (fun x => f x + g x) = sumN l f + sumN l g := by
  induction l with
  | nil => rfl
  | cons a l ih => rw [sumN_cons, sumN_cons, sumN_cons, ih]; omega
theorem sumN_mul (c : Nat) (l : List Nat) (f : Nat → Nat) : sumN l (fun x => c * f x) = c * sumN l f := by
  induction l with
  | nil => simp [sumN]
  | cons a l ih => rw [sumN_cons, sumN_cons, ih, Nat.mul_add]
theorem sumN_zero (l : List Nat) : sumN l (fun _ => 0) = 0 := by
  induction l with
  | nil => rfl
  | cons a l ih => rw [sumN_cons, ih]
theorem sumN_const (c : Nat) (l : List Nat) : sumN l (fun _ => c) = l.length * c := by
  induction l with
  | nil => simp [sumN]
  | cons a l ih => rw [sumN_cons, ih, List.length_cons, Nat.succ_mul]; omega
theorem sumN_swap (l m : List Nat) (f : Nat → Nat → Nat) : sumN l (fun x => sumN m (f x)) = sumN m (fun y => sumN l (fun x => f x y)) := by
  induction l with
  | nil => rw [sumN_nil]; exact (sumN_zero m).symm
  | cons a l ih =>
    rw [sumN_cons, ih, ← sumN_add]
    exact sumN_congr fun y _ => (sumN_cons a l (fun x => f x y)).symm
theorem sumN_le {l : List Nat} {f g : Nat → Nat} (h : ∀ x ∈ l, f x ≤ g x) : sumN l f ≤ sumN l g := by
  induction l with
  | nil => exact Nat.le_refl _
  | cons a l ih =>
    rw [sumN_cons, sumN_cons]
    have := h a List.mem_cons_self
    have := ih fun x hx => h x (List.mem_cons_of_mem _ hx)
    omega
/-- one of the letters -/
theorem sumN_one {l : List Nat} (hn : l.Nodup) {a : Nat} (ha : a ∈ l) (c : Nat) : sumN l (fun x => if a = x then c else 0) = c := by
  induction l with
  | nil => cases ha
  | cons b l ih =>
    rw [sumN_cons]
    have hb := List.nodup_cons.mp hn
    by_cases e : a = b
    · rw [if_pos e]
      have z : sumN l (fun x => if a = x then c else 0) = 0 := by
        refine (sumN_congr (g := fun _ => 0) fun x hx => if_neg ?_).trans (sumN_zero l)
        intro q
        exact hb.1 (by rw [← e, q]; exact hx)
      rw [z]; rfl
    · rw [if_neg e, ih hb.2 (by rcases List.mem_cons.mp ha with z | z; exact absurd z e; exact z)]
      omega

/-- the overlap number -/
def phi (q : Nat) (w s : List Nat) : Nat := sumN (List.range w.length) fun k => if w.take (k + 1) <:+ s then q ^ (k + 1) else 0
theorem phi_congr {q : Nat} {w s t : List Nat} (h : ∀ k, k ≤ w.length → (w.take k <:+ s ↔ w.take k <:+ t)) : phi q w s = phi q w t := by
  refine sumN_congr fun k hk => ?_
  have hk' := List.mem_range.mp hk
  by_cases e : w.take (k + 1) <:+ s
  · rw [if_pos e, if_pos ((h (k + 1) (by omega)).mp e)]
  · rw [if_neg e, if_neg fun z => e ((h (k + 1) (by omega)).mpr z)]
/-- a suffix that holds all the beginnings that stand at the end -/
theorem phi_suf {q : Nat} {w s t : List Nat} (ht : t <:+ s) (h : ∀ k, k ≤ w.length → w.take k <:+ s → k ≤ t.length) : phi q w t = phi q w s :=
  phi_congr fun k hk => ⟨fun z => z.trans ht, fun z => suf_of_le z ht (by rw [len_take hk]; exact h k hk z)⟩
theorem phi_lng (q : Nat) (w s : List Nat) : phi q w (w.take (lng w s)) = phi q w s :=
  phi_suf (lng_suf w s) fun k hk z => by rw [len_take (lng_le w s)]; exact lng_max hk z
/-- one throw more, over all letters -/
theorem phi_step {q : Nat} {w s L : List Nat} (hL : L.Nodup) (hq : L.length = q) (hw : ∀ c ∈ w, c ∈ L) (hs : ¬ w <:+ s) : sumN L (fun c => phi q w (s ++ [c])) = q + q * phi q w s := by
  have hne : w ≠ [] := by rintro rfl; exact hs (List.nil_suffix)
  unfold phi
  rw [sumN_swap]
  have e1 : sumN (List.range w.length) (fun k => sumN L fun c => if w.take (k + 1) <:+ s ++ [c] then q ^ (k + 1) else 0) = sumN (List.range w.length) (fun k => if w.take k <:+ s then q ^ (k + 1) else 0) := by
    refine sumN_congr fun k hk => ?_
    have hk' := List.mem_range.mp hk
    have e2 : sumN L (fun c => if w.take (k + 1) <:+ s ++ [c] then q ^ (k + 1) else 0) = sumN L (fun c => if w[k] = c then (if w.take k <:+ s then q ^ (k + 1) else 0) else 0) := by
      refine sumN_congr fun c _ => ?_
      have tk := take_succ_suf (w := w) (t := s) (c := c) hk'
      rw [List.getElem?_eq_getElem hk'] at tk
      by_cases h1 : w[k] = c
      · rw [if_pos h1]
        by_cases h2 : w.take k <:+ s
        · rw [if_pos h2, if_pos (tk.mpr ⟨h2, congrArg some h1⟩)]
        · rw [if_neg h2, if_neg fun z => h2 (tk.mp z).1]
      · rw [if_neg h1, if_neg fun z => h1 (Option.some.inj (tk.mp z).2)]
    rw [e2, sumN_one hL (hw _ (List.getElem_mem hk'))]
  rw [e1]
  obtain ⟨n, en⟩ : ∃ n, w.length = n + 1 := ⟨w.length - 1, by have := List.length_pos_iff.mpr hne; omega⟩
  rw [en]
  have e3 : List.range (n + 1) = 0 :: (List.range n).map (· + 1) := by
    rw [List.range_succ_eq_map]
  have e4 : sumN (List.range (n + 1)) (fun k => if w.take k <:+ s then q ^ (k + 1) else 0) = q + sumN (List.range n) (fun k => if w.take (k + 1) <:+ s then q ^ (k + 2) else 0) := by
    rw [e3, sumN_cons, List.take_zero, if_pos List.nil_suffix, Nat.zero_add, Nat.pow_one]
    congr 1
    unfold sumN
    rw [List.map_map]
    rfl
  rw [e4]
  congr 1
  have e5 : sumN (List.range (n + 1)) (fun k => if w.take (k + 1) <:+ s then q ^ (k + 1) else 0) = sumN (List.range n) (fun k => if w.take (k + 1) <:+ s then q ^ (k + 1) else 0) := by
    rw [List.range_succ, sumN_append, sumN_cons, sumN_nil, if_neg]
    · rfl
    · rw [← en, List.take_length]; exact hs
  rw [e5, ← sumN_mul]
  refine sumN_congr fun k _ => ?_
  by_cases h : w.take (k + 1) <:+ s
  · rw [if_pos h, if_pos h, Nat.pow_succ q (k + 1), Nat.mul_comm]
  · rw [if_neg h, if_neg h]; rfl
/-- a sum of powers below m -/
theorem pow_sum_lt {q : Nat} (hq : 2 ≤ q) : ∀ (m : Nat) (f : Nat → Nat), (∀ k, f k ≤ q ^ k) → sumN (List.range m) (fun k => f (k + 1)) + 2 ≤ 2 * q ^ m
  | 0, f, _ => by simp [sumN]
  | m + 1, f, h => by
    have ih := pow_sum_lt hq m f h
    rw [List.range_succ, sumN_append, sumN_cons, sumN_nil]
    have h1 := h (m + 1)
    have h2 : 2 * q ^ m ≤ q ^ (m + 1) := by rw [Nat.pow_succ, Nat.mul_comm]; exact Nat.mul_le_mul_left _ hq
    omega
/-- no beginning of m or more letters stands there -/
theorem phi_lt {q : Nat} (hq : 2 ≤ q) {w s : List Nat} {m : Nat} (h0 : 0 < m) (h : ∀ k, k ≤ w.length → m ≤ k → ¬ w.take k <:+ s) : phi q w s < q ^ m := by
  have e : phi q w s ≤ sumN (List.range (m - 1)) (fun k => if w.take (k + 1) <:+ s then q ^ (k + 1) else 0) := by
    unfold phi
    by_cases hm : w.length ≤ m - 1
    · obtain ⟨d, hd⟩ : ∃ d, m - 1 = w.length + d := ⟨m - 1 - w.length, by omega⟩
      rw [hd, List.range_add, sumN_append]
      omega
    · obtain ⟨d, hd⟩ : ∃ d, w.length = m - 1 + d := ⟨w.length - (m - 1), by omega⟩
      have e1 : List.range w.length = List.range (m - 1) ++ (List.range d).map (m - 1 + ·) := by rw [hd, List.range_add]
      rw [e1, sumN_append]
      have z : sumN ((List.range d).map (m - 1 + ·)) (fun k => if w.take (k + 1) <:+ s then q ^ (k + 1) else 0) = 0 := by
        refine (sumN_congr (g := fun _ => 0) fun k hk => if_neg ?_).trans (sumN_zero _)
        obtain ⟨i, hi, rfl⟩ := List.mem_map.mp hk
        have := List.mem_range.mp hi
        exact h (m - 1 + i + 1) (by omega) (by omega)
      rw [z]
      exact Nat.le_refl _
  have e2 := pow_sum_lt hq (m - 1) (fun k => if w.take k <:+ s then q ^ k else 0) (fun k => by
    by_cases z : w.take k <:+ s
    · simp only [if_pos z]; exact Nat.le_refl _
    · simp only [if_neg z]; exact Nat.zero_le _)
  have e3 : 2 * q ^ (m - 1) ≤ q ^ m := by
    obtain ⟨j, rfl⟩ : ∃ j, m = j + 1 := ⟨m - 1, by omega⟩
    rw [Nat.add_sub_cancel, Nat.pow_succ, Nat.mul_comm]
    exact Nat.mul_le_mul_left _ hq
  omega
theorem phi_self {q : Nat} {w : List Nat} (hne : w ≠ []) : q ^ w.length ≤ phi q w w := by
  obtain ⟨n, en⟩ : ∃ n, w.length = n + 1 := ⟨w.length - 1, by have := List.length_pos_iff.mpr hne; omega⟩
  unfold phi
  rw [en, List.range_succ, sumN_append, sumN_cons, sumN_nil, if_pos]
  · omega
  · rw [← en, List.take_length]; exact List.suffix_refl _
end FW
/-! Waiting for a word, two words, the likelier word: by the overlap numbers. -/
namespace FW
/-! ### waiting -/
def waitZ (q : Nat) (w : List Nat) (k : Nat) : Int := (phi q w w : Int) - (phi q w (w.take k) : Int)
theorem waitZ_all (q : Nat) (w : List Nat) : waitZ q w w.length = 0 := by
  unfold waitZ
  rw [List.take_length]
  omega
def sumZ (l : List Nat) (f : Nat → Int) : Int := (l.map f).sum
theorem sumZ_nil (f : Nat → Int) : sumZ [] f = 0 := rfl
theorem sumZ_cons (a : Nat) (l : List Nat) (f : Nat → Int) : sumZ (a :: l) f = f a + sumZ l f := by simp [sumZ]
theorem sumZ_congr {l : List Nat} {f g : Nat → Int} (h : ∀ x ∈ l, f x = g x) : sumZ l f = sumZ l g := by
  induction l with
  | nil => rfl
  | cons a l ih => rw [sumZ_cons, sumZ_cons, h a List.mem_cons_self, ih fun x hx => h x (List.mem_cons_of_mem _ hx)]
theorem sumZ_nat (l : List Nat) (f : Nat → Nat) : sumZ l (fun x => (f x : Int)) = (sumN l f : Int) := by
  induction l with
  | nil => rfl
  | cons a l ih => rw [sumZ_cons, sumN_cons, ih]; omega
theorem sumZ_add (l : List Nat) (f g : Nat → Int) : sumZ l (fun x => f x + g x) = sumZ l f + sumZ l g := by
  induction l with
  | nil => rfl
  | cons a l ih => rw [sumZ_cons, sumZ_cons, sumZ_cons, ih]; omega
theorem sumZ_sub (l : List Nat) (f g : Nat → Int) : sumZ l (fun x => f x - g x) = sumZ l f - sumZ l g := by
  induction l with
  | nil => rfl
  | cons a l ih => rw [sumZ_cons, sumZ_cons, sumZ_cons, ih]; omega
theorem sumZ_const (c : Int) (l : List Nat) : sumZ l (fun _ => c) = (l.length : Int) * c := by
  induction l with
  | nil => simp [sumZ]
  | cons a l ih => rw [sumZ_cons, ih, List.length_cons, Int.natCast_succ, Int.add_mul]; omega
theorem not_suf_take {w : List Nat} {k : Nat} (h : k < w.length) : ¬ w <:+ w.take k := fun z => by
  have := z.length_le
  rw [List.length_take] at this
  omega
/-- [3]: the sides times it are the sides and the sum of those that it leads to -/
theorem waitZ_step {q : Nat} {w L : List Nat} (hL : L.Nodup) (hq : L.length = q) (hw : ∀ c ∈ w, c ∈ L) {k : Nat} (hk : k < w.length) :
    (q : Int) * waitZ q w k = q + sumZ L fun c => waitZ q w (lng w (w.take k ++ [c])) := by
  have e1 : sumZ L (fun c => waitZ q w (lng w (w.take k ++ [c]))) = sumZ L (fun c => (phi q w w : Int) - (phi q w (w.take k ++ [c]) : Int)) :=
    sumZ_congr fun c _ => by unfold waitZ; rw [phi_lng]
  rw [e1, sumZ_sub, sumZ_const, sumZ_nat, phi_step hL hq hw (not_suf_take hk), hq]
  unfold waitZ
  rw [Int.mul_sub, Int.natCast_add, Int.natCast_mul]
  omega

/-! ### two words -/
def isSt (a b s : List Nat) : Bool := decide (s <+: a) || decide (s <+: b)
/-- the longest end that is a state -/
def nxt (a b : List Nat) : List Nat → List Nat
  | [] => []
  | c :: r => if isSt a b (c :: r) then c :: r else nxt a b r
theorem isSt_nil (a b : List Nat) : isSt a b [] = true := by simp [isSt]
theorem isSt_takeA (a b : List Nat) (k : Nat) : isSt a b (a.take k) = true := by simp [isSt, List.take_prefix]
theorem isSt_takeB (a b : List Nat) (k : Nat) : isSt a b (b.take k) = true := by simp [isSt, List.take_prefix]
theorem nxt_st (a b : List Nat) : ∀ t, isSt a b (nxt a b t) = true
  | [] => isSt_nil a b
  | c :: r => by
    unfold nxt
    split
    · assumption
    · exact nxt_st a b r
theorem nxt_suf (a b : List Nat) : ∀ t, nxt a b t <:+ t
  | [] => List.suffix_refl _
  | c :: r => by
    unfold nxt
    split
    · exact List.suffix_refl _
    · exact (nxt_suf a b r).trans (List.suffix_cons c r)
theorem nxt_max (a b : List Nat) : ∀ t u, u <:+ t → isSt a b u = true → u.length ≤ (nxt a b t).length
  | [], u, h, _ => by simpa [nxt] using h.length_le
  | c :: r, u, h, hu => by
    unfold nxt
    split
    · exact h.length_le
    · rename_i hn
      rcases List.suffix_cons_iff.mp h with e | e
      · subst e; exact absurd hu hn
      · exact nxt_max a b r u e hu
theorem nxt_of_st {a b t : List Nat} (h : isSt a b t = true) : nxt a b t = t := by
  cases t with
  | nil => rfl
  | cons c r => unfold nxt; rw [if_pos h]
theorem phi_nxtA (q : Nat) (a b t : List Nat) : phi q a (nxt a b t) = phi q a t :=
  phi_suf (nxt_suf a b t) fun k hk z => by
    have := nxt_max a b t _ z (isSt_takeA a b k)
    rw [len_take hk] at this
    exact this
theorem phi_nxtB (q : Nat) (a b t : List Nat) : phi q b (nxt a b t) = phi q b t :=
  phi_suf (nxt_suf a b t) fun k hk z => by
    have := nxt_max a b t _ z (isSt_takeB a b k)
    rw [len_take hk] at this
    exact this
def partZ (q : Nat) (a b s : List Nat) : Int := (phi q b b : Int) - phi q a b + phi q a s - phi q b s
def wholeZ (q : Nat) (a b : List Nat) : Int := (phi q b b : Int) - phi q a b + phi q a a - phi q b a
theorem partZ_one (q : Nat) (a b : List Nat) : partZ q a b a = wholeZ q a b := rfl
theorem partZ_other (q : Nat) (a b : List Nat) : partZ q a b b = 0 := by unfold partZ; omega
theorem partZ_turn (q : Nat) (a b s : List Nat) : partZ q b a s = wholeZ q a b - partZ q a b s := by unfold partZ wholeZ; omega
theorem wholeZ_turn (q : Nat) (a b : List Nat) : wholeZ q b a = wholeZ q a b := by unfold wholeZ; omega
/-- [4]: the sides times it are the sum of those that it leads to -/
theorem partZ_step {q : Nat} {a b L : List Nat} (hL : L.Nodup) (hq : L.length = q) (ha : ∀ c ∈ a, c ∈ L) (hb : ∀ c ∈ b, c ∈ L) {s : List Nat} (h1 : ¬ a <:+ s) (h2 : ¬ b <:+ s) :
    sumZ L (fun c => partZ q a b (nxt a b (s ++ [c]))) = (q : Int) * partZ q a b s := by
  have e1 : sumZ L (fun c => partZ q a b (nxt a b (s ++ [c]))) = sumZ L (fun c => ((phi q b b : Int) - phi q a b + (phi q a (s ++ [c]) : Int)) - (phi q b (s ++ [c]) : Int)) :=
    sumZ_congr fun c _ => by unfold partZ; rw [phi_nxtA, phi_nxtB]
  rw [e1, sumZ_sub, sumZ_add, sumZ_const, sumZ_nat, sumZ_nat, phi_step hL hq ha h1, phi_step hL hq hb h2, hq]
  unfold partZ
  rw [Int.mul_sub, Int.mul_sub (q : Int) ((phi q b b : Int) - phi q a b + phi q a s), Int.mul_add, Int.mul_sub, Int.natCast_add, Int.natCast_mul, Int.natCast_add, Int.natCast_mul]
  omega
/-- no state but a itself ends with a -/
theorem st_end {a b s : List Nat} (hs : isSt a b s = true) (hab : ¬ a <:+: b) (h : a <:+ s) : s = a := by
  unfold isSt at hs
  rw [Bool.or_eq_true, decide_eq_true_iff, decide_eq_true_iff] at hs
  rcases hs with z | z
  · have h1 := h.length_le
    have h2 := z.length_le
    exact z.eq_of_length (by omega)
  · exact absurd (h.isInfix.trans z.isInfix) hab
theorem st_end' {a b s : List Nat} (hs : isSt a b s = true) (hba : ¬ b <:+: a) (h : b <:+ s) : s = b := by
  have hs' : isSt b a s = true := by unfold isSt at hs ⊢; rw [Bool.or_comm]; exact hs
  exact st_end hs' hba h
/-- the word against itself is more than against the other -/
theorem phi_cross {q : Nat} (hq : 2 ≤ q) {a b : List Nat} (ha : a ≠ []) (hab : ¬ a <:+: b) (hba : ¬ b <:+: a) : phi q b a < phi q a a := by
  have h1 : phi q b a < q ^ a.length := phi_lt hq (List.length_pos_iff.mpr ha) fun k hk hm z => by
    have := z.length_le
    rw [len_take hk] at this
    have e : k = a.length := by omega
    have e2 : b.take k = a := z.eq_of_length (by rw [len_take hk, e])
    exact hab (by rw [← e2]; exact (List.take_prefix k b).isInfix)
  have := phi_self (q := q) ha
  omega
theorem wholeZ_pos {q : Nat} (hq : 2 ≤ q) {a b : List Nat} (ha : a ≠ []) (hb : b ≠ []) (hab : ¬ a <:+: b) (hba : ¬ b <:+: a) : 1 ≤ wholeZ q a b := by
  have h1 := phi_cross hq ha hab hba
  have h2 := phi_cross hq hb hba hab
  unfold wholeZ
  omega

/-! ### the likelier word -/
def powS (P : Nat → Bool) : Nat → Nat
  | 0 => 0
  | n + 1 => (if P (n + 1) then 2 ^ (n + 1) else 0) + powS P n
theorem phi_powS (w s : List Nat) : phi 2 w s = powS (fun k => decide (w.take k <:+ s)) w.length := by
  unfold phi
  generalize w.length = n
  induction n with
  | zero => rfl
  | succ n ih =>
    rw [List.range_succ, sumN_append, ih, sumN_cons, sumN_nil, Nat.add_zero, Nat.add_comm]
    show _ = (if decide (w.take (n + 1) <:+ s) = true then 2 ^ (n + 1) else 0) + _
    simp only [decide_eq_true_eq]
theorem powS_top (P : Nat → Bool) : ∀ n, powS P n < 2 ^ (n + 1)
  | 0 => by show 0 < 2; decide
  | n + 1 => by
    have := powS_top P n
    unfold powS
    rw [Nat.pow_succ 2 (n + 1)]
    split <;> omega
theorem pow_mono {a b : Nat} (h : a ≤ b) : 2 ^ a ≤ 2 ^ b := Nat.pow_le_pow_right (by decide) h
theorem powS_lt {P : Nat → Bool} {m : Nat} (h0 : 0 < m) : ∀ n, (∀ k, 1 ≤ k → k ≤ n → P k = true → k < m) → powS P n < 2 ^ m
  | 0, _ => Nat.pow_pos (by decide)
  | n + 1, h => by
    cases e : P (n + 1) with
    | true =>
      have := h (n + 1) (by omega) (by omega) e
      exact Nat.lt_of_lt_of_le (powS_top P (n + 1)) (pow_mono (by omega))
    | false =>
      unfold powS
      rw [e, if_neg (by decide), Nat.zero_add]
      exact powS_lt h0 n fun k h1 h2 h3 => h k h1 (by omega) h3
theorem powS_lt2 {P : Nat → Bool} {m j : Nat} (h0 : 0 < j) (hj : j ≤ m) : ∀ n, (∀ k, 1 ≤ k → k ≤ n → P k = true → k = m ∨ k < j) → powS P n < 2 ^ m + 2 ^ j
  | 0, _ => Nat.lt_of_lt_of_le (Nat.pow_pos (n := m) (by decide : 0 < 2)) (Nat.le_add_right _ _)
  | n + 1, h => by
    cases e : P (n + 1) with
    | true =>
      rcases h (n + 1) (by omega) (by omega) e with z | z
      · have := powS_lt (P := P) h0 n fun k h1 h2 h3 => by
          rcases h k h1 (by omega) h3 with q | q
          · omega
          · exact q
        unfold powS
        rw [e, if_pos rfl, z]
        omega
      · have := Nat.lt_of_lt_of_le (powS_top P (n + 1)) (pow_mono (show n + 1 + 1 ≤ j by omega))
        exact Nat.lt_of_lt_of_le this (Nat.le_add_left _ _)
    | false =>
      unfold powS
      rw [e, if_neg (by decide), Nat.zero_add]
      exact powS_lt2 h0 hj n fun k h1 h2 h3 => h k h1 (by omega) h3
theorem powS_lt3 {P : Nat → Bool} {l m j : Nat} (h0 : 0 < j) (hj : j ≤ m) (hm : m < l) : ∀ n, (∀ k, 1 ≤ k → k ≤ n → P k = true → k = l ∨ k = m ∨ k < j) → powS P n < 2 ^ l + 2 ^ m + 2 ^ j
  | 0, _ => Nat.lt_of_lt_of_le (Nat.pow_pos (n := j) (by decide : 0 < 2)) (Nat.le_add_left _ _)
  | n + 1, h => by
    cases e : P (n + 1) with
    | true =>
      rcases h (n + 1) (by omega) (by omega) e with z | z | z
      · have := powS_lt2 (P := P) h0 hj n fun k h1 h2 h3 => by
          rcases h k h1 (by omega) h3 with q | q
          · omega
          · exact q
        unfold powS
        rw [e, if_pos rfl, z]
        omega
      · have := powS_lt2 (P := P) h0 hj (n + 1) fun k h1 h2 h3 => by
          rcases h k h1 (by omega) h3 with q | q
          · omega
          · exact q
        rw [Nat.add_assoc]
        exact Nat.lt_of_lt_of_le this (Nat.le_add_left _ _)
      · have := Nat.lt_of_lt_of_le (powS_top P (n + 1)) (pow_mono (show n + 1 + 1 ≤ j by omega))
        exact Nat.lt_of_lt_of_le this (Nat.le_add_left _ _)
    | false =>
      unfold powS
      rw [e, if_neg (by decide), Nat.zero_add]
      exact powS_lt3 h0 hj hm n fun k h1 h2 h3 => h k h1 (by omega) h3
/-- sign by sign -/
theorem suf_get {w s : List Nat} {k : Nat} (hk : k ≤ w.length) (h : w.take k <:+ s) {i : Nat} (hi : i < k) : s[s.length - k + i]? = w[i]? := by
  obtain ⟨t, e⟩ := h
  have hl : s.length = t.length + k := by rw [← e, List.length_append, len_take hk]
  rw [hl, Nat.add_sub_cancel, ← e, List.getElem?_append_right (by omega), Nat.add_sub_cancel_left, List.getElem?_take_of_lt hi]
theorem get_some {w : List Nat} {i : Nat} (h : i < w.length) : ∃ c, w[i]? = some c := ⟨w[i], List.getElem?_eq_getElem h⟩

section
variable {x : Nat} {b : List Nat} {n : Nat}
/-- the likelier word of b, x being the other letter than its second one -/
theorem lik_gt {b : List Nat} {x : Nat} (h6 : 6 ≤ b.length) (hx : b[1]? ≠ some x) :
    phi 2 (x :: b.dropLast) (x :: b.dropLast) + phi 2 (x :: b.dropLast) b < phi 2 b b + phi 2 b (x :: b.dropLast) := by
  generalize ea : x :: b.dropLast = a
  obtain ⟨n, hn⟩ : ∃ n, b.length = n := ⟨_, rfl⟩
  have hal : a.length = n := by rw [← ea, List.length_cons, List.length_dropLast]; omega
  have a0 : a[0]? = some x := by rw [← ea]; rfl
  have aS : ∀ i, i + 1 < n → a[i + 1]? = b[i]? := fun i hi => by
    rw [← ea, List.getElem?_cons_succ, List.getElem?_dropLast, if_pos (by omega)]
  have a2 : a[2]? ≠ some x := by rw [aS 1 (by omega)]; exact hx
  have hb1 : 2 ^ n ≤ phi 2 b b := by rw [← hn]; exact phi_self (by rintro rfl; exact absurd h6 (by decide))
  have hb2 : 2 ^ (n - 1) ≤ phi 2 b a := by
    rw [phi_powS, hn]
    obtain ⟨m, rfl⟩ : ∃ m, n = m + 2 := ⟨n - 2, by omega⟩
    have e : (fun k => decide (b.take k <:+ a)) (m + 1) = true := by
      refine decide_eq_true ?_
      have : b.take (m + 1) = b.dropLast := by rw [List.dropLast_eq_take, hn]; rfl
      rw [this, ← ea]
      exact List.suffix_cons x _
    have z : 2 ^ (m + 1) ≤ powS (fun k => decide (b.take k <:+ a)) (m + 1) := by
      unfold powS
      rw [if_pos e]
      omega
    have : powS (fun k => decide (b.take k <:+ a)) (m + 1) ≤ powS (fun k => decide (b.take k <:+ a)) (m + 2) := by
      show _ ≤ (if _ then _ else 0) + powS _ (m + 1)
      omega
    show 2 ^ (m + 1) ≤ _
    omega
  -- where a stands in itself
  have A1 : ∀ k, 1 ≤ k → k ≤ n → a.take k <:+ a → k = n ∨ k ≤ n - 3 := by
    intro k h1 h2 z
    have g : ∀ i, i < k → a[n - k + i]? = a[i]? := fun i hi => by rw [← hal]; exact suf_get (by omega) z hi
    by_cases e : k ≤ n - 3 ∨ k = n
    · omega
    · exfalso
      rcases (show k = n - 1 ∨ k = n - 2 by omega) with q | q
      · have g0 := g 0 (by omega)
        have g1 := g 1 (by omega)
        rw [show n - k + 0 = 1 by omega] at g0
        rw [show n - k + 1 = 2 by omega] at g1
        exact a2 (by rw [g1, g0]; exact a0)
      · have g0 := g 0 (by omega)
        rw [show n - k + 0 = 2 by omega] at g0
        exact a2 (by rw [g0]; exact a0)
  -- where a stands in b
  have B1 : ∀ k, 1 ≤ k → k ≤ n → a.take k <:+ b → k ≤ n - 2 := by
    intro k h1 h2 z
    have g : ∀ i, i < k → b[n - k + i]? = a[i]? := fun i hi => by rw [← hn]; exact suf_get (by omega) z hi
    by_cases e : k ≤ n - 2
    · exact e
    · exfalso
      rcases (show k = n ∨ k = n - 1 by omega) with q | q
      · have g0 := g 0 (by omega)
        have g1 := g 1 (by omega)
        rw [show n - k + 0 = 0 by omega] at g0
        rw [show n - k + 1 = 1 by omega, aS 0 (by omega)] at g1
        exact hx (by rw [g1, g0]; exact a0)
      · have g0 := g 0 (by omega)
        rw [show n - k + 0 = 1 by omega] at g0
        exact hx (by rw [g0]; exact a0)
  -- of a beginning of a of m letters, m three or more, the next that stands at its end has three fewer at least
  have N : ∀ m k, 3 ≤ m → m ≤ n → 1 ≤ k → k < m → a.take k <:+ a.take m → k + 3 ≤ m := by
    intro m k hm hmn h1 h2 z
    have lm : (a.take m).length = m := len_take (by omega)
    have g : ∀ i, i < k → a[m - k + i]? = a[i]? := fun i hi => by
      have := suf_get (w := a) (s := a.take m) (by omega) z hi
      rw [lm, List.getElem?_take_of_lt (by omega)] at this
      exact this
    by_cases e : k + 3 ≤ m
    · exact e
    · exfalso
      rcases (show k = m - 1 ∨ k = m - 2 by omega) with q | q
      · have g0 := g 0 (by omega)
        have g1 := g 1 (by omega)
        rw [show m - k + 0 = 1 by omega] at g0
        rw [show m - k + 1 = 2 by omega] at g1
        exact a2 (by rw [g1, g0]; exact a0)
      · have g0 := g 0 (by omega)
        rw [show m - k + 0 = 2 by omega] at g0
        exact a2 (by rw [g0]; exact a0)
  have p1 : 2 ^ n = 2 * 2 ^ (n - 1) := by rw [← Nat.pow_succ']; congr 1; omega
  have p2 : 2 ^ (n - 1) = 2 * 2 ^ (n - 2) := by rw [← Nat.pow_succ']; congr 1; omega
  have p3 : 2 ^ (n - 2) = 2 * 2 ^ (n - 3) := by rw [← Nat.pow_succ']; congr 1; omega
  have p4 : 2 ^ (n - 3) = 2 * 2 ^ (n - 4) := by rw [← Nat.pow_succ']; congr 1; omega
  have p5 : 2 ^ (n - 4) = 2 * 2 ^ (n - 5) := by rw [← Nat.pow_succ']; congr 1; omega
  have b0 : phi 2 a b = powS (fun k => decide (a.take k <:+ b)) n := by rw [phi_powS, hal]
  have a0' : phi 2 a a = powS (fun k => decide (a.take k <:+ a)) n := by rw [phi_powS, hal]
  have aLt : phi 2 a a < 2 ^ n + 2 ^ (n - 2) := by
    rw [a0']
    refine powS_lt2 (by omega) (by omega) n fun k h1 h2 h3 => ?_
    rcases A1 k h1 h2 (of_decide_eq_true h3) with q | q
    · exact .inl q
    · exact .inr (by omega)
  by_cases hB : a.take (n - 2) <:+ b
  · have bLt : phi 2 a b < 2 ^ (n - 2) + 2 ^ (n - 4) := by
      rw [b0]
      refine powS_lt2 (by omega) (by omega) n fun k h1 h2 h3 => ?_
      have z := of_decide_eq_true h3
      by_cases e : k = n - 2
      · exact .inl e
      · have hk := B1 k h1 h2 z
        have q := N (n - 2) k (by omega) (by omega) h1 (by omega) (suf_of_le z hB (by rw [len_take (by omega), len_take (by omega)]; omega))
        exact .inr (by omega)
    by_cases hA : a.take (n - 3) <:+ a
    · have aLt2 : phi 2 a a < 2 ^ n + 2 ^ (n - 3) + 2 ^ (n - 4) := by
        rw [a0']
        refine powS_lt3 (by omega) (by omega) (by omega) n fun k h1 h2 h3 => ?_
        have z := of_decide_eq_true h3
        rcases A1 k h1 h2 z with q | q
        · exact .inl q
        · by_cases e : k = n - 3
          · exact .inr (.inl e)
          · have q := N (n - 3) k (by omega) (by omega) h1 (by omega) (suf_of_le z hA (by rw [len_take (by omega), len_take (by omega)]; omega))
            exact .inr (.inr (by omega))
      omega
    · have aLt2 : phi 2 a a < 2 ^ n + 2 ^ (n - 3) := by
        rw [a0']
        refine powS_lt2 (by omega) (by omega) n fun k h1 h2 h3 => ?_
        have z := of_decide_eq_true h3
        rcases A1 k h1 h2 z with q | q
        · exact .inl q
        · by_cases e : k = n - 3
          · subst e; exact absurd z hA
          · exact .inr (by omega)
      omega
  · have bLt : phi 2 a b < 2 ^ (n - 2) := by
      rw [b0]
      refine powS_lt (by omega) n fun k h1 h2 h3 => ?_
      have z := of_decide_eq_true h3
      have hk := B1 k h1 h2 z
      by_cases e : k = n - 2
      · subst e; exact absurd z hB
      · omega
    omega
end
/-- words of a coin of three to five letters, one by one -/
def lik (b : List Nat) : List Nat := (if b.getD 1 0 = 97 then 98 else 97) :: b.dropLast
def likOk (b : List Nat) : Bool := decide (phi 2 (lik b) (lik b) + phi 2 (lik b) b < phi 2 b b + phi 2 b (lik b))
def coins : Nat → List (List Nat)
  | 0 => [[]]
  | n + 1 => (coins n).map (97 :: ·) ++ (coins n).map (98 :: ·)
theorem mem_coins : ∀ (b : List Nat), (∀ c ∈ b, c = 97 ∨ c = 98) → b ∈ coins b.length
  | [], _ => List.mem_cons_self
  | c :: r, h => by
    have ih := mem_coins r fun d hd => h d (List.mem_cons_of_mem _ hd)
    rw [List.length_cons]
    unfold coins
    rcases h c List.mem_cons_self with e | e
    · subst e; exact List.mem_append_left _ (List.mem_map.mpr ⟨r, ih, rfl⟩)
    · subst e; exact List.mem_append_right _ (List.mem_map.mpr ⟨r, ih, rfl⟩)
theorem lik_small : ((coins 3 ++ coins 4 ++ coins 5).all likOk) = true := by decide +kernel
theorem lik_likelier {b : List Nat} (h3 : 3 ≤ b.length) (hb : ∀ c ∈ b, c = 97 ∨ c = 98) : phi 2 (lik b) (lik b) + phi 2 (lik b) b < phi 2 b b + phi 2 b (lik b) := by
  by_cases h6 : 6 ≤ b.length
  · refine lik_gt h6 ?_
    have e : b[1]? = some (b.getD 1 0) := by
      rw [List.getD_eq_getElem?_getD, List.getElem?_eq_getElem (by omega)]; rfl
    rw [e]
    intro z
    have z := Option.some.inj z
    split at z
    · rename_i q; rw [q] at z; exact absurd z (by decide)
    · rename_i q; exact q z
  · have m := mem_coins b hb
    have : b ∈ coins 3 ++ coins 4 ++ coins 5 := by
      rcases (show b.length = 3 ∨ b.length = 4 ∨ b.length = 5 by omega) with e | e | e <;> rw [e] at m
      · exact List.mem_append_left _ (List.mem_append_left _ m)
      · exact List.mem_append_left _ (List.mem_append_right _ m)
      · exact List.mem_append_right _ m
    exact of_decide_eq_true (List.all_eq_true.mp lik_small b this)
/-- [5] by the parts: it is likelier than half -/
theorem lik_half {b : List Nat} (h3 : 3 ≤ b.length) (hb : ∀ c ∈ b, c = 97 ∨ c = 98) : wholeZ 2 (lik b) b < 2 * partZ 2 (lik b) b [] := by
  have h := lik_likelier h3 hb
  have z : ∀ w : List Nat, phi 2 w [] = 0 := fun w => by
    unfold phi
    refine (sumN_congr (g := fun _ => 0) fun k hk => if_neg ?_).trans (sumN_zero _)
    intro q
    have := q.length_le
    rw [len_take (by have := List.mem_range.mp hk; omega)] at this
    simp at this
  unfold wholeZ partZ
  rw [z, z]
  omega
end FW
namespace FW
/-! ### what a beginning leads to, by its shorter beginning; what is held -/
theorem lng_lead {w : List Nat} {m c : Nat} (hm : m < w.length) (h0 : 0 < m) (hc : w[m]? ≠ some c) : lng w (w.take m ++ [c]) = lng w (w.take (bord w m) ++ [c]) := by
  have e1 : lng w (w.take (bord w m) ++ [c]) = lng w ((w.take m).drop 1 ++ [c]) := lng_snoc
  rw [e1]
  have e2 : (w.take m).drop 1 ++ [c] = (w.take m ++ [c]).drop 1 := by
    rw [List.drop_append_of_le_length (by rw [len_take (by omega)]; omega)]
  apply Nat.le_antisymm
  · have h1 := lng_suf w (w.take m ++ [c])
    have h2 := lng_le w (w.take m ++ [c])
    apply lng_max h2
    rw [e2]
    have hlt : lng w (w.take m ++ [c]) ≤ m := by
      have h3 := lng_le_t w (w.take m ++ [c])
      rw [List.length_append, len_take (by omega), List.length_singleton] at h3
      by_cases e : lng w (w.take m ++ [c]) = m + 1
      · rw [e] at h1
        exact absurd ((take_succ_suf hm).mp h1).2 hc
      · omega
    refine suf_of_le h1 (List.drop_suffix _ _) ?_
    rw [len_take h2, List.length_drop, List.length_append, len_take (by omega), List.length_singleton]
    omega
  · refine lng_max (lng_le _ _) ((lng_suf w _).trans ?_)
    rw [e2]
    exact List.drop_suffix _ _
theorem lng_yes {w : List Nat} {m c : Nat} (hm : m < w.length) (hc : w[m]? = some c) : lng w (w.take m ++ [c]) = m + 1 := (Going.start (Nat.le_of_lt hm)).yes hm hc
theorem lng_no {w : List Nat} {c : Nat} (hc : w[0]? ≠ some c) : lng w [c] = 0 := (Going.start (c := c) (Nat.zero_le w.length)).no hc
/-- which counts a count leads to, letter by letter -/
def rowL (q : Nat) (w : List Nat) (m : Nat) : List Nat := (List.range q).map fun i => lng w (w.take m ++ [97 + i])
theorem rowL_len (q : Nat) (w : List Nat) (m : Nat) : (rowL q w m).length = q := by simp [rowL]
theorem rowL_zero {q : Nat} {w : List Nat} {c : Nat} (hw : w[0]? = some c) (h1 : 97 ≤ c) : (List.replicate q 0).set (c - 97) 1 = rowL q w 0 := by
  have hp : 0 < w.length := (List.getElem?_eq_some_iff.mp hw).1
  apply List.ext_getElem?
  intro i
  rw [List.getElem?_set, rowL, List.getElem?_map, List.length_replicate]
  by_cases hi : i < q
  · by_cases e : c - 97 = i
    · rw [if_pos e, if_pos (by omega), List.getElem?_range hi]
      have := lng_yes (w := w) (m := 0) hp (show w[0]? = some (97 + i) by rw [hw]; congr 1; omega)
      simpa using this.symm
    · rw [if_neg e, List.getElem?_range hi, List.getElem?_replicate, if_pos hi]
      have := lng_no (w := w) (c := 97 + i) (by rw [hw]; intro z; have := Option.some.inj z; omega)
      simpa using this.symm
  · rw [List.getElem?_eq_none (l := List.range q) (by simpa using hi), List.getElem?_replicate, if_neg hi]
    by_cases e : c - 97 = i
    · rw [if_pos e, if_neg (by omega)]
      rfl
    · rw [if_neg e]
      rfl
theorem rowL_next {q : Nat} {w : List Nat} {m c : Nat} (hm : m < w.length) (h0 : 0 < m) (hw : w[m]? = some c) (h1 : 97 ≤ c) : (rowL q w (bord w m)).set (c - 97) (m + 1) = rowL q w m := by
  apply List.ext_getElem?
  intro i
  rw [List.getElem?_set, rowL_len, rowL, rowL, List.getElem?_map, List.getElem?_map]
  by_cases hi : i < q
  · by_cases e : c - 97 = i
    · rw [if_pos e, if_pos (by omega), List.getElem?_range hi]
      have := lng_yes (w := w) (m := m) hm (show w[m]? = some (97 + i) by rw [hw]; congr 1; omega)
      simpa using this.symm
    · rw [if_neg e, List.getElem?_range hi]
      have := lng_lead (w := w) (m := m) (c := 97 + i) hm h0 (by rw [hw]; intro z; have := Option.some.inj z; omega)
      simpa using this.symm
  · rw [List.getElem?_eq_none (l := List.range q) (by simpa using hi)]
    by_cases e : c - 97 = i
    · rw [if_pos e, if_neg (by omega)]
      rfl
    · rw [if_neg e]
      rfl
theorem phi_nil (q : Nat) (w : List Nat) : phi q w [] = 0 := by
  unfold phi
  refine (sumN_congr fun k hk => if_neg fun z => ?_).trans (sumN_zero _)
  have := z.length_le
  rw [List.length_take, List.length_nil] at this
  have := List.mem_range.mp hk
  omega
theorem phi_bord {q : Nat} {w : List Nat} {k : Nat} (hk : k ≤ w.length) (h0 : 0 < k) : phi q w (w.take k) = q ^ k + phi q w (w.take (bord w k)) := by
  unfold phi
  have h : sumN (List.range w.length) (fun j => if w.take (j + 1) <:+ w.take k then q ^ (j + 1) else 0) = sumN (List.range w.length) (fun j => (if k - 1 = j then q ^ k else 0) + if w.take (j + 1) <:+ w.take (bord w k) then q ^ (j + 1) else 0) := by
    refine sumN_congr fun j hj => ?_
    have hj' : j < w.length := List.mem_range.mp hj
    have hb := bord_lt hk h0
    by_cases e1 : k - 1 = j
    · have ek : j + 1 = k := by omega
      rw [if_pos e1, ek, if_pos (List.suffix_refl _), if_neg fun z => by
        have := z.length_le
        rw [len_take hk, len_take (by omega)] at this
        omega]
      rfl
    · rw [if_neg e1, Nat.zero_add]
      by_cases hs : w.take (j + 1) <:+ w.take k
      · have hle := hs.length_le
        rw [len_take (by omega), len_take hk] at hle
        have hjb := bord_max hk (by omega) hs
        rw [if_pos hs, if_pos (suf_of_le hs (bord_suf hk h0) (by rw [len_take (by omega), len_take (by omega)]; exact hjb))]
      · rw [if_neg hs, if_neg fun z => hs (z.trans (bord_suf hk h0))]
  rw [h, sumN_add, sumN_one List.nodup_range (List.mem_range.mpr (by omega))]
end FW
namespace FW
open PySem L2
/-! ### the text by places -/
def top (i : Nat) : Stmt := PySem.Challenge.pw_firstword_k05_whole_likelier.main.body.getD i (.Pass ⟨0, 0, 0, 0⟩)
abbrev sWho : Stmt := top 10
abbrev sThr : Stmt := top 11
abbrev sIsW : Stmt := top 12
abbrev sChS : Stmt := top 13
abbrev sChW : Stmt := top 14
abbrev sStep : Stmt := top 16
abbrev sSh : Stmt := top 17
abbrev sRe : Stmt := top 18
abbrev sRaceI : Stmt := inClass (top 21) 0
abbrev sRaceS : Stmt := inClass (top 21) 1
abbrev sBegO : Stmt := top 22
abbrev sBeg : Stmt := top 23
abbrev sHeld : Stmt := top 27
abbrev sMarg : Stmt := top 28
abbrev sRaceF : Stmt := top 29
abbrev sLik : Stmt := top 30
abbrev sLaw : Stmt := top 32
end FW
namespace FW
open PySem L2
/-! ### what all the laws share -/
def low (c : Nat) : Bool := decide (97 ≤ c) && decide (c ≤ 122)
def Low (l : List Nat) : Prop := l.all low = true
def alpha : List Nat := (List.range 26).map (97 + ·)
def vi (n : Nat) : V := .int (n : Int)
/-- python's own names -/
structure Bl (mg : Str → Option Value) : Prop where
  isinstance : mg "isinstance" = none
  str : mg "str" = none
  int : mg "int" = none
  bool : mg "bool" = none
  list : mg "list" = none
  all : mg "all" = none
  any : mg "any" = none
  len : mg "len" = none
  sum : mg "sum" = none
  min : mg "min" = none
  max : mg "max" = none
  range : mg "range" = none
  enumerate : mg "enumerate" = none
  reversed : mg "reversed" = none
  zip : mg "zip" = none
  set : mg "set" = none
  sorted : mg "sorted" = none
  valueError : mg "ValueError" = none
  ord : mg "ord" = none
  dict : mg "dict" = none
theorem kit_str (K : PySem.W.Frag) : PySem.W.kitOne K (.type "str") (.type "str") = some true := by
  unfold PySem.W.kitOne
  rw [if_pos (by decide)]
theorem kit_list (K : PySem.W.Frag) : PySem.W.kitOne K (.type "list") (.type "list") = some true := by
  unfold PySem.W.kitOne
  rw [if_pos (by decide)]
theorem kit_int (K : PySem.W.Frag) : PySem.W.kitOne K (.type "int") (.type "int") = some true := by
  unfold PySem.W.kitOne
  rw [if_pos (by decide)]
theorem kit_int_bool (K : PySem.W.Frag) : PySem.W.kitOne K (.type "int") (.type "bool") = some false := by
  first | rfl | (unfold PySem.W.kitOne; rw [if_neg (by decide)]; rfl) | (unfold PySem.W.kitOne; rw [if_neg (by decide)]; with_unfolding_all rfl)
section
variable {P : Program} {w : World} {K : PySem.W.Frag} {mg : Str → Option Value} {base : Heap}
theorem sz {n : Nat} (h : n ≤ 10000) : n ≤ sizeLine := by rw [sizeLine_eq]; omega
theorem sz' {n : Nat} (h : n ≤ 20000) : n < sizeLine := by rw [sizeLine_eq]; omega
/-- a def of the text that is called by its name; CX: what may leave it -/
structure Gf (P : Program) (w : World) (K : PySem.W.Frag) (mg : Str → Option Value) (base : Heap) (k : Nat) (x : Str) (ps : List Str) (sp : Sp) (f : Addr) (fd : FuncData) : Prop where
  ok : FnOk P w K mg base CX0 k f fd ps sp
  mg : mg x = some (.ref f)
  kp : PySem.W.keepIn K (.ref f) = true
  bd : Binds K fd ps []
end
end FW
namespace FW
open PySem L2
/-! ### firstword.checks: throws and words -/
/-- a value that the text's top has written -/
def Gv (mg : Str → Option Value) (x : Str) (v : V) : Prop := ∃ u, mg x = some u ∧ RelV v u
def thB (q : Nat) (l : List Nat) : Bool := l.all fun c => decide (c ∈ alpha.take q)
def spThr (K : PySem.W.Frag) : Sp := fun vs H Q _ => ∃ (q : Nat) (x : V), vs = [vi q, x] ∧ 2 ≤ q ∧ q ≤ 26 ∧
  ((∃ l, x = .str (tx l) ∧ l.length ≤ 10000 ∧ ∀ H', Same H H' → Q (.bl (thB q l)) H') ∨ (∃ t, TyOf K H x t ∧ PySem.W.kitOne K t (.type "str") = some false ∧ Q (.bl false) H))
def spIsW (K : PySem.W.Frag) : Sp := fun vs H Q _ => ∃ (q : Nat) (x : V), vs = [vi q, x] ∧ 2 ≤ q ∧ q ≤ 26 ∧
  ((∃ l, x = .str (tx l) ∧ l.length ≤ 10000 ∧ ∀ H', Same H H' → Q (.bl (thB q l && decide (l ≠ []))) H') ∨ (∃ t, TyOf K H x t ∧ PySem.W.kitOne K t (.type "str") = some false ∧ Q (.bl false) H))
def spChW : Sp := fun vs H Q _ => ∃ (q : Nat) (l : List Nat), vs = [vi q, .str (tx l)] ∧ 2 ≤ q ∧ q ≤ 26 ∧ l.length ≤ 10000 ∧ (∀ c ∈ l, c ∈ alpha.take q) ∧ l ≠ [] ∧ ∀ H', Same H H' → Q .non H'
theorem thB_of {q : Nat} {l : List Nat} (h : ∀ c ∈ l, c ∈ alpha.take q) : thB q l = true := List.all_eq_true.mpr fun c hc => decide_eq_true (h c hc)
theorem mem_alpha {q c : Nat} (h : c ∈ alpha.take q) (h26 : q ≤ 26) : 97 ≤ c ∧ c - 97 < q := by
  have e : alpha.take q = (List.range q).map (97 + ·) := by
    unfold alpha
    rw [← List.map_take, List.take_range, Nat.min_eq_left h26]
  rw [e] at h
  obtain ⟨i, hi, rfl⟩ := List.mem_map.mp h
  have := List.mem_range.mp hi
  omega
theorem mem_inf {c : Nat} {l : List Nat} : [c] <:+: l ↔ c ∈ l := by
  constructor
  · rintro ⟨a, b, e⟩
    rw [← e]
    simp
  · intro h
    obtain ⟨a, b, e⟩ := List.append_of_mem h
    exact ⟨a, b, by rw [e]; simp⟩
section
variable {P : Program} {w : World} {K : PySem.W.Frag} {mg : Str → Option Value} {base : Heap}
theorem scThr : FnScope ["sides", "thing", "letters"] ["sides", "thing"] (defScope sThr) := ⟨rfl, rfl, rfl, by decide +kernel, rfl, by decide +kernel, by decide +kernel⟩
theorem ok_thr {f : Addr} {fd : FuncData} (F : Fun K "is_throws" "is_throws" sThr f fd) (B : Bl mg) (GL : Gv mg "LETTERS" (.str (tx alpha))) : FnOk P w K mg base CX0 1 f fd ["sides", "thing"] (spThr K) := by
  obtain ⟨u, hm, ru⟩ := GL
  refine F.ok scThr (fun vs H Q E h => ?_) (fun cdv A outer s H vs Q E hr h => ?_)
  · obtain ⟨q, x, rfl, _⟩ := h
    rfl
  · obtain ⟨q, x, rfl, h2, h26, k⟩ := h
    refine ⟨_, pss_cons (ps_set (i := 2) scThr.nd rfl (Or.inr rfl) (pe_slice sl_str (pe_glob rfl hm ru) po_none (po_some (pv 0))))
      (pss_one (ps_ret (pe_and (pe_callB call_isinst rfl B.isinstance (by decide +kernel) (pa_cons (pv 1) (pa_cons (pe_bltn (v := .ty "str") rfl B.str (by decide +kernel) rfl) pa_nil)))
      (pe_one (pe_callB (call_all rfl) rfl B.all (by decide +kernel) (pa_cons (pe_lc (N := ["sides", "thing", "letters"]) (sc := defScope sThr) (own := ["sign"]) (cap := [2]) ⟨rfl, by decide +kernel, by decide +kernel, by decide +kernel, by decide +kernel⟩ (pi_str (pv 1))
        (fun _ _ _ _ _ => pg_name (i := 0) (show (lcN ["sides", "thing", "letters"] ["sign"] [2]).Nodup by decide +kernel) rfl (Or.inl rfl) (.inr rfl)) (fun _ _ _ _ _ => pif_nil) (fun _ _ _ _ _ => pe_cmpR op_in_tx (pv 0) (pv 1) rfl)) pa_nil)))))), ?_⟩
    refine ⟨_, rfl, _, rfl, alpha, rfl, sz (by decide), ?_⟩
    rw [cutL_to]
    rcases k with ⟨l, rfl, hl, k⟩ | ⟨t, ty, kt, k⟩
    · refine ⟨_, rfl, _, _, _, _, rfl, .str _, kit_str K, true, rfl, iteT ?_⟩
      refine ⟨_, rfl, l, rfl, lcb1 l.length (fun i => .bl (decide (l.getD i 0 ∈ alpha.take q))) (sz hl) (fun i _ h _ => h) (fun _ _ => Nat.le_refl _) ?_ ?_⟩
      · rintro i H1 K1 hi hs k1 x _ ⟨rfl, c, hc, rfl⟩
        refine ⟨lcExt_set (by decide), ?_⟩
        have e : l.getD i 0 = c := by rw [List.getD_eq_getElem?_getD, hc]; rfl
        have k1' := k1 _ (Same.refl _)
        rw [e] at k1'
        refine ⟨_, rfl, _, rfl, [c], _, rfl, rfl, ?_⟩
        rw [show decide ([c] <:+: alpha.take q) = decide (c ∈ alpha.take q) from decide_eq_decide.mpr mem_inf]
        exact k1'
      · intro D H' hD hs hd
        refine ⟨D, l.map fun c => decide (c ∈ alpha.take q), rfl, SqL.of ?_, ?_⟩
        · rw [hd, List.map_map]
          congr 2
          exact range_map_getD (fun c => V.bl (decide (c ∈ alpha.take q))) 0 l
        · have e : (l.map fun c => decide (c ∈ alpha.take q)).all id = thB q l := by simp [List.all_map, thB]
          rw [e]
          exact k H' hs
    · exact ⟨_, rfl, _, _, _, _, rfl, ty, kt, false, rfl, iteF k⟩
theorem scIsW : FnScope ["sides", "thing"] ["sides", "thing"] (defScope sIsW) := ⟨rfl, rfl, rfl, by decide +kernel, rfl, by decide +kernel, by decide +kernel⟩
theorem ok_isw {f fL : Addr} {fd dL : FuncData} (F : Fun K "is_word" "is_word" sIsW f fd) (B : Bl mg) (GT : Gf P w K mg base 1 "is_throws" ["sides", "thing"] (spThr K) fL dL) : FnOk P w K mg base CX0 2 f fd ["sides", "thing"] (spIsW K) := by
  refine F.ok scIsW (fun vs H Q E h => ?_) (fun cdv A outer s H vs Q E hr h => ?_)
  · obtain ⟨q, x, rfl, _⟩ := h
    rfl
  · obtain ⟨q, x, rfl, h2, h26, k⟩ := h
    refine ⟨_, pss_one (ps_ret (pe_and (pe_call GT.ok hr rfl GT.mg GT.kp GT.bd .nil pass0 (pa_cons (pv 0) (pa_cons (pv 1) pa_nil)))
      (pe_one (pe_cmpR op_gt (pe_callB call_len_tx rfl B.len (by decide +kernel) (pa_cons (pv 1) pa_nil)) pe_int (nomark _))))), ?_⟩
    rcases k with ⟨l, rfl, hl, k⟩ | ⟨t, ty, kt, k⟩
    · refine ⟨_, rfl, _, rfl, q, _, rfl, h2, h26, .inl ⟨l, rfl, hl, fun H1 s1 => ⟨_, rfl, ?_⟩⟩⟩
      by_cases hb : thB q l = true
      · rw [hb]
        refine iteT ⟨_, rfl, l, rfl, sz hl, _, _, rfl, rfl, ?_⟩
        have k' := k H1 s1
        rw [hb, Bool.true_and] at k'
        dsimp only
        rw [show decide ((0 : Int) < ((l.length : Nat) : Int)) = decide (l ≠ []) from decide_eq_decide.mpr (by
          rw [← List.length_pos_iff]
          omega)]
        exact k'
      · have hb' : thB q l = false := by simpa using hb
        have k' := k H1 s1
        rw [hb', Bool.false_and] at k'
        rw [hb']
        exact iteF k'
    · exact ⟨_, rfl, _, rfl, q, x, rfl, h2, h26, .inr ⟨t, ty, kt, _, rfl, iteF k⟩⟩
theorem scChW : FnScope ["sides", "word"] ["sides", "word"] (defScope sChW) := ⟨rfl, rfl, rfl, by decide +kernel, rfl, by decide +kernel, by decide +kernel⟩
theorem ok_chw {f fL : Addr} {fd fdL : FuncData} (F : Fun K "check_word" "check_word" sChW f fd) (GW : Gf P w K mg base 2 "is_word" ["sides", "thing"] (spIsW K) fL fdL) : FnOk P w K mg base CX0 3 f fd ["sides", "word"] spChW := by
  refine F.ok scChW (fun vs H Q E h => ?_) (fun cdv A outer s H vs Q E hr h => ?_)
  · obtain ⟨q, l, rfl, _⟩ := h
    rfl
  · obtain ⟨q, l, rfl, h2, h26, hl, hof, hne, k⟩ := h
    refine ⟨_, pss_one (ps_if (pt_not (pt_val (pe_call GW.ok hr rfl GW.mg GW.kp GW.bd .nil pass0 (pa_cons (pv 0) (pa_cons (pv 1) pa_nil))))) pss_never pss_nil), ?_⟩
    refine ⟨_, rfl, _, rfl, q, _, rfl, h2, h26, .inl ⟨l, rfl, hl, fun H1 s1 => ⟨_, rfl, ?_⟩⟩⟩
    rw [thB_of hof, decide_eq_true hne]
    exact iteF (k H1 s1)
end
end FW
namespace FW
open PySem L2
/-! ### firstword.checks: whole numbers and sides -/
def spWho (K : PySem.W.Frag) : Sp := fun vs H Q _ => ∃ (x : V) (t : Value) (b1 b2 : Bool), vs = [x] ∧ TyOf K H x t ∧ PySem.W.kitOne K t (.type "int") = some b1 ∧ PySem.W.kitOne K t (.type "bool") = some b2 ∧ Q (.bl (b1 && !b2)) H
def spChS : Sp := fun vs H Q _ => ∃ (q : Nat), vs = [vi q] ∧ 2 ≤ q ∧ q ≤ 26 ∧ Q .non H
section
variable {P : Program} {w : World} {K : PySem.W.Frag} {mg : Str → Option Value} {base : Heap}
theorem scWho : FnScope ["thing"] ["thing"] (defScope sWho) := ⟨rfl, rfl, rfl, by decide +kernel, rfl, by decide +kernel, by decide +kernel⟩
theorem ok_who {f : Addr} {fd : FuncData} (F : Fun K "is_whole" "is_whole" sWho f fd) (B : Bl mg) : FnOk P w K mg base CX0 1 f fd ["thing"] (spWho K) := by
  refine F.ok scWho (fun vs H Q E h => ?_) (fun cdv A outer s H vs Q E hr h => ?_)
  · obtain ⟨x, t, b1, b2, rfl, _⟩ := h
    rfl
  · obtain ⟨x, t, b1, b2, rfl, ty, k1, k2, k⟩ := h
    refine ⟨_, pss_one (ps_ret (pe_and (pe_callB call_isinst rfl B.isinstance (by decide +kernel) (pa_cons (pv 0) (pa_cons (pe_bltn (v := .ty "int") rfl B.int (by decide +kernel) rfl) pa_nil)))
      (pe_one (pe_not (pe_callB call_isinst rfl B.isinstance (by decide +kernel) (pa_cons (pv 0) (pa_cons (pe_bltn (v := .ty "bool") rfl B.bool (by decide +kernel) rfl) pa_nil))))))), ?_⟩
    refine ⟨_, rfl, _, _, _, _, rfl, ty, k1, b1, rfl, ?_⟩
    cases b1 with
    | false => exact iteF k
    | true => exact iteT ⟨_, rfl, _, _, _, _, rfl, ty, k2, b2, rfl, k⟩
theorem scChS : FnScope ["sides"] ["sides"] (defScope sChS) := ⟨rfl, rfl, rfl, by decide +kernel, rfl, by decide +kernel, by decide +kernel⟩
theorem ok_chs {f fL : Addr} {fd fdL : FuncData} (F : Fun K "check_sides" "check_sides" sChS f fd) (GW : Gf P w K mg base 1 "is_whole" ["thing"] (spWho K) fL fdL) (G1 : Gv mg "LEAST_SIDES" (.int 2)) (G2 : Gv mg "MOST_SIDES" (.int 26)) : FnOk P w K mg base CX0 2 f fd ["sides"] spChS := by
  obtain ⟨u1, m1, r1⟩ := G1
  obtain ⟨u2, m2, r2⟩ := G2
  refine F.ok scChS (fun vs H Q E h => ?_) (fun cdv A outer s H vs Q E hr h => ?_)
  · obtain ⟨q, rfl, _⟩ := h
    rfl
  · obtain ⟨q, rfl, h2, h26, k⟩ := h
    refine ⟨_, pss_one (ps_if (PW.pt (pw_or (pt_not (pt_val (pe_call GW.ok hr rfl GW.mg GW.kp GW.bd .nil pass0 (pa_cons (pv 0) pa_nil))))
      (pw_or1 (pt_not (pt_chain op_le op_le (pe_glob rfl m1 r1) (pv 0) (pe_glob rfl m2 r2)))))) pss_never pss_nil), ?_⟩
    refine ⟨_, rfl, _, _, _, _, rfl, .int _, kit_int K, kit_int_bool K, _, rfl, iteF ?_⟩
    refine ⟨_, rfl, _, _, rfl, rfl, _, rfl, ?_⟩
    rw [decide_eq_true (by show (2 : Int) ≤ ((q : Nat) : Int); omega)]
    refine iteT ⟨_, _, rfl, rfl, _, rfl, ?_⟩
    rw [decide_eq_true (by show ((q : Nat) : Int) ≤ (26 : Int); omega)]
    exact iteF k
end
end FW
namespace FW
open PySem L2
/-! ### firstword.words: the step, and the shorter beginnings -/
def spStep (K : PySem.W.Frag) : Sp := fun vs H Q _ => ∃ (w : List Nat) (p : Addr) (tab : List Nat) (r c : Nat), vs = [.str (tx w), .ref p, vi r, .str (tx [c])] ∧ SqL K H p (tab.map vi) ∧ w ≠ [] ∧ w.length ≤ 10000 ∧ r ≤ w.length ∧
  (∀ j, j ≤ r → tab[j]? = some (bord w j)) ∧ Q (vi (lng w (w.take r ++ [c]))) H
def spSh : Sp := fun vs H Q _ => ∃ w, vs = [.str (tx w)] ∧ w ≠ [] ∧ w.length ≤ 10000 ∧ ∀ p H', H p = none → Same H H' → H' p = some (.lst ((shTab w (w.length + 1)).map vi)) → Q (.ref p) H'
section
variable {P : Program} {w : World} {K : PySem.W.Frag} {mg : Str → Option Value} {base : Heap}
theorem scStep : FnScope ["word", "shorter", "reached", "letter"] ["word", "shorter", "reached", "letter"] (defScope sStep) := ⟨rfl, rfl, rfl, by decide +kernel, rfl, by decide +kernel, by decide +kernel⟩
theorem ok_step {f : Addr} {fd : FuncData} (F : Fun K "step" "step" sStep f fd) (B : Bl mg) : FnOk P w K mg base CX0 1 f fd ["word", "shorter", "reached", "letter"] (spStep K) := by
  refine F.ok scStep (fun vs H Q E h => ?_) (fun cdv A outer s H vs Q E hr h => ?_)
  · obtain ⟨w, p, tab, r, c, rfl, _⟩ := h
    rfl
  · obtain ⟨w, p, tab, r, c, rfl, hS, hne, hw, hrw, htab, k⟩ := h
    refine ⟨_, pss_cons (ps_while PassesOwn.never (PW.pt (pw_and (pt_cmpR op_gt (pv 2) pe_int (nomark _))
        (pw_and1 (PW.pt (pw_or (pt_cmpR op_eq (pv 2) (pe_callB call_len_tx rfl B.len (by decide +kernel) (pa_cons (pv 0) pa_nil)) (nomark _))
          (pw_or1 (pt_cmpR op_ne (pe_ix ix_tx (pv 0) (pv 2) (fun _ _ => rfl)) (pv 3) (nomark _))))))))
        (pss_one (ps_set (i := 2) scStep.nd rfl (Or.inl rfl) (pe_ix ix_list (pv 1) (pv 2) (fun _ _ => rfl)))))
      (pss_cons (ps_if (pt_cmpR op_eq (pe_ix ix_tx (pv 0) (pv 2) (fun _ _ => rfl)) (pv 3) (nomark _)) (pss_one (ps_ret (pe_op op_add (pv 2) pe_int))) pss_nil)
      (pss_one (ps_ret pe_int))), ?_⟩
    refine ⟨fun m σ H2 => H2 = H ∧ σ = [some (.str (tx w)), some (.ref p), some (vi m), some (.str (tx [c]))] ∧ Going w (w.take r) c m ∧ m ≤ r, ⟨r, rfl, rfl, Going.start hrw, Nat.le_refl _⟩, ?_⟩
    rintro r' σ H2 ⟨rfl, rfl, g, hr'⟩
    refine ⟨_, rfl, _, _, rfl, rfl, _, rfl, ?_⟩
    by_cases h0 : r' = 0
    · subst h0
      rw [decide_eq_false (by show ¬ (0 : Int) < ((0 : Nat) : Int); omega)]
      refine iteF (iteF ?_)
      cases hw0 : w[0]? with
      | none =>
        have := List.getElem?_eq_none_iff.mp hw0
        exact absurd (List.length_eq_zero_iff.mp (by omega)) hne
      | some c0 =>
        refine ⟨_, rfl, _, rfl, w, 0, c0, rfl, rfl, sz hw, hw0, _, rfl, rfl, _, rfl, ?_⟩
        rw [dec_tx]
        by_cases hc : c0 = c
        · subst hc
          rw [decide_eq_true rfl]
          refine iteT ⟨_, rfl, _, _, rfl, rfl, ?_⟩
          rw [g.yes (by have := (List.getElem?_eq_some_iff.mp hw0).1; exact this) hw0] at k
          exact k
        · rw [decide_eq_false (by intro z; exact hc (by simpa using z))]
          refine iteF ?_
          rw [g.no (by rw [hw0]; intro z; exact hc (Option.some.inj z))] at k
          exact k
    · have hpos : 0 < r' := by omega
      rw [decide_eq_true (by show (0 : Int) < ((r' : Nat) : Int); omega)]
      refine iteT ⟨_, rfl, _, rfl, w, rfl, sz hw, rfl, _, rfl, ?_⟩
      have body : ∀ (hn : r' = w.length ∨ w[r']? ≠ some c), ∃ N : St → Hp → Prop, (∀ σ' H', N σ' H' → ∃ m', m' < r' ∧ H' = H2 ∧ σ' = [some (.str (tx w)), some (.ref p), some (vi m'), some (.str (tx [c]))] ∧ Going w (w.take r) c m' ∧ m' ≤ r) ∧
          N [some (.str (tx w)), some (.ref p), some (vi (bord w r')), some (.str (tx [c]))] H2 := fun hn => by
        have lt := bord_lt g.le hpos
        exact ⟨fun σ' H' => H' = H2 ∧ σ' = [some (.str (tx w)), some (.ref p), some (vi (bord w r')), some (.str (tx [c]))], fun σ' H' ⟨e1, e2⟩ => ⟨bord w r', lt, e1, e2, g.turn hpos hn, by omega⟩, rfl, rfl⟩
      have item : atI (tab.map vi) ((r' : Nat) : Int) = some (vi (bord w r')) := atI_nat (by rw [List.getElem?_map, htab r' hr']; rfl)
      by_cases hl : r' = w.length
      · rw [decide_eq_true (by rw [← hl]; rfl)]
        refine iteT (iteT ?_)
        obtain ⟨N, h1, h2⟩ := body (.inl hl)
        exact ⟨N, h1, _, rfl, _, rfl, p, _, _, _, rfl, rfl, hS, item, h2⟩
      · rw [decide_eq_false (by intro z; unfold vi at z; injection z with z; omega)]
        refine iteF ?_
        have hlt : r' < w.length := by have := g.le; omega
        have hwr : w[r']? = some w[r'] := List.getElem?_eq_getElem hlt
        refine ⟨_, rfl, _, rfl, w, r', w[r'], rfl, rfl, sz hw, hwr, _, rfl, rfl, _, rfl, ?_⟩
        rw [dec_tx]
        by_cases hc : w[r'] = c
        · rw [hc, decide_eq_true rfl]
          refine iteF ?_
          rw [hc] at hwr
          refine ⟨_, rfl, _, rfl, w, r', c, rfl, rfl, sz hw, hwr, _, rfl, rfl, _, rfl, ?_⟩
          rw [dec_tx, decide_eq_true rfl]
          refine iteT ⟨_, rfl, _, _, rfl, rfl, ?_⟩
          rw [g.yes hlt hwr] at k
          exact k
        · rw [decide_eq_false (by intro z; exact hc (by simpa using z))]
          refine iteT ?_
          obtain ⟨N, h1, h2⟩ := body (.inr (by rw [hwr]; intro z; exact hc (Option.some.inj z)))
          exact ⟨N, h1, _, rfl, _, rfl, p, _, _, _, rfl, rfl, hS, item, h2⟩

theorem scSh : FnScope ["word", "shorter", "reached", "letter"] ["word"] (defScope sSh) := ⟨rfl, rfl, rfl, by decide +kernel, rfl, by decide +kernel, by decide +kernel⟩
theorem ok_sh {f fS : Addr} {fd fdS : FuncData} (F : Fun K "shorter_beginnings" "shorter_beginnings" sSh f fd) (GS : Gf P w K mg base 1 "step" ["word", "shorter", "reached", "letter"] (spStep K) fS fdS) : FnOk P w K mg base CX0 2 f fd ["word"] spSh := by
  refine F.ok scSh (fun vs H Q E h => ?_) (fun cdv A outer s H vs Q E hr h => ?_)
  · obtain ⟨w, rfl, _⟩ := h
    rfl
  · obtain ⟨w, rfl, hne, hw, k⟩ := h
    refine ⟨_, pss_cons (ps_set (i := 1) scSh.nd rfl (Or.inl rfl) (pe_lst (pa_cons pe_int (pa_cons pe_int pa_nil))))
      (pss_cons (ps_set (i := 2) scSh.nd rfl (Or.inl rfl) pe_int)
      (pss_cons (ps_for PassesOwn.never rfl (pi_str (pe_slice sl_str (pv 0) (po_some pe_int) po_none)) (pg_name (i := 3) scSh.nd rfl (Or.inl rfl))
        (pss_cons (ps_set (i := 2) scSh.nd rfl (Or.inl rfl) (pe_call GS.ok hr rfl GS.mg GS.kp GS.bd .nil pass0 (pa_cons (pv 0) (pa_cons (pv 1) (pa_cons (pv 2) (pa_cons (pv 3) pa_nil))))))
        (pss_one (ps_expr (pe_bm PySem.F.plainAttrs_list PySem.F.slot_list_append PySem.F.type_list_append mt_append (pv 1) (pa_cons (pv 2) pa_nil))))))
      (pss_one (ps_ret (pv 1))))), ?_⟩
    refine ⟨by show 2 ≤ sizeLine; decide, fun p hp => ?_⟩
    have hwl : 0 < w.length := by
      cases w with
      | nil => exact absurd rfl hne
      | cons a r => exact Nat.succ_pos _
    have ecut : cutL w (some 1) none = w.drop 1 := cutL_from w 1
    refine ⟨_, rfl, _, rfl, w, rfl, sz hw, w.drop 1, by rw [ecut], for_str (l := w.drop 1) (fun i σ H2 => ∃ v, σ = [some (.str (tx w)), some (.ref p), some (vi (bord w (i + 1))), v] ∧ Same H H2 ∧ H2 p = some (.lst ((shTab w (i + 2)).map vi)))
      ⟨none, by rw [bord_one]; rfl, (Same.refl H).upd hp, by rw [upd_same, shTab_two]; rfl⟩ ?_ ?_⟩
    · rintro i c σ H2 hc ⟨v, rfl, s2, h2⟩
      have hi : i + 1 < w.length := by
        have := (List.getElem?_eq_some_iff.mp hc).1
        rw [List.length_drop] at this
        omega
      have hc' : w[i + 1]? = some c := by
        rw [List.getElem?_drop] at hc
        rw [Nat.add_comm]
        exact hc
      have hb : bord w (i + 1) ≤ i + 1 := Nat.le_of_lt (bord_lt (by omega) (by omega))
      refine ⟨_, rfl, _, rfl, _, rfl, _, rfl, w, p, shTab w (i + 2), bord w (i + 1), c, rfl, SqL.of h2, hne, hw, by omega, fun j hj => shTab_get (by omega), ?_⟩
      refine ⟨_, rfl, .inl ⟨rfl, _, SqL.of h2⟩, _, rfl, p, _, _, rfl, rfl, h2, ?_, ?_⟩
      · rw [List.length_map]
        unfold shTab
        rw [List.length_map, List.length_range]
        exact sz' (by omega)
      · rw [bord_next hi hc']
        refine ⟨_, rfl, s2.upd hp, ?_⟩
        rw [upd_same, shTab_succ w (i + 2), List.map_append]
        rfl
    · rintro σ H2 ⟨v, rfl, s2, h2⟩
      have e : (w.drop 1).length + 2 = w.length + 1 := by rw [List.length_drop]; omega
      rw [e] at h2
      exact ⟨_, rfl, k p H2 hp s2 h2⟩
end
end FW
namespace FW
open PySem L2
/-! ### firstword.words: what is reached -/
def spRe : Sp := fun vs H Q _ => ∃ w t, vs = [.str (tx w), .str (tx t)] ∧ w ≠ [] ∧ w.length ≤ 10000 ∧ t.length ≤ 10000 ∧ ∀ p H', H p = none → Same H H' → H' p = some (.lst ((reTab w t (t.length + 1)).map vi)) → Q (.ref p) H'
section
variable {P : Program} {w : World} {K : PySem.W.Frag} {mg : Str → Option Value} {base : Heap}
theorem scRe : FnScope ["word", "throws", "shorter", "reached", "reached_so_far", "letter"] ["word", "throws"] (defScope sRe) := ⟨rfl, rfl, rfl, by decide +kernel, rfl, by decide +kernel, by decide +kernel⟩
theorem ok_re {f fS fH : Addr} {fd fdS fdH : FuncData} (F : Fun K "reached_by_count" "reached_by_count" sRe f fd) (GS : Gf P w K mg base 1 "step" ["word", "shorter", "reached", "letter"] (spStep K) fS fdS)
    (GH : Gf P w K mg base 2 "shorter_beginnings" ["word"] spSh fH fdH) : FnOk P w K mg base CX0 3 f fd ["word", "throws"] spRe := by
  refine F.ok scRe (fun vs H Q E h => ?_) (fun cdv A outer s H vs Q E hr h => ?_)
  · obtain ⟨w, t, rfl, _⟩ := h
    rfl
  · obtain ⟨w, t, rfl, hne, hw, ht, k⟩ := h
    refine ⟨_, pss_cons (ps_set (i := 2) scRe.nd rfl (Or.inl rfl) (pe_call GH.ok hr rfl GH.mg GH.kp GH.bd .nil pass0 (pa_cons (pv 0) pa_nil)))
      (pss_cons (ps_set (i := 3) scRe.nd rfl (Or.inl rfl) pe_int)
      (pss_cons (ps_set (i := 4) scRe.nd rfl (Or.inl rfl) (pe_lst (pa_cons (pv 3) pa_nil)))
      (pss_cons (ps_for PassesOwn.never rfl (pi_str (pv 1)) (pg_name (i := 5) scRe.nd rfl (Or.inl rfl))
        (pss_cons (ps_set (i := 3) scRe.nd rfl (Or.inl rfl) (pe_call GS.ok (hr.mono (by decide)) rfl GS.mg GS.kp GS.bd .nil pass0 (pa_cons (pv 0) (pa_cons (pv 2) (pa_cons (pv 3) (pa_cons (pv 5) pa_nil))))))
        (pss_one (ps_expr (pe_bm PySem.F.plainAttrs_list PySem.F.slot_list_append PySem.F.type_list_append mt_append (pv 4) (pa_cons (pv 3) pa_nil))))))
      (pss_one (ps_ret (pv 4)))))), ?_⟩
    refine ⟨_, rfl, w, rfl, hne, hw, fun p H1 hp s1 h1 => ?_⟩
    refine ⟨_, rfl, by show 1 ≤ sizeLine; decide, fun q hq => ?_⟩
    have npq : p ≠ q := ne_of_none h1 hq
    refine ⟨_, rfl, t, rfl, for_str (l := t) (fun i σ H2 => ∃ v, σ = [some (.str (tx w)), some (.str (tx t)), some (.ref p), some (vi (lng w (t.take i))), some (.ref q), v] ∧ Same H H2 ∧ H2 p = some (.lst ((shTab w (w.length + 1)).map vi)) ∧ H2 q = some (.lst ((reTab w t (i + 1)).map vi)))
      ⟨none, by rw [List.take_zero, lng_nil]; rfl, s1.upd (s1.free hq), by rw [upd_ne npq]; exact h1, by rw [upd_same]; simp [reTab, List.range_succ, lng_nil]; rfl⟩ ?_ ?_⟩
    · rintro i c σ H2 hc ⟨v, rfl, s2, h2, h3⟩
      have hi : i < t.length := (List.getElem?_eq_some_iff.mp hc).1
      have hle := lng_le w (t.take i)
      refine ⟨_, rfl, _, rfl, _, rfl, _, rfl, w, p, shTab w (w.length + 1), lng w (t.take i), c, rfl, SqL.of h2, hne, hw, hle, fun j hj => shTab_get (by omega), ?_⟩
      refine ⟨_, rfl, .inl ⟨rfl, _, SqL.of h3⟩, _, rfl, q, _, _, rfl, rfl, h3, ?_, ?_⟩
      · rw [List.length_map]
        unfold reTab
        rw [List.length_map, List.length_range]
        exact sz' (by omega)
      · rw [lng_next hc]
        refine ⟨_, rfl, s2.upd (s1.free hq), by rw [upd_ne npq]; exact h2, ?_⟩
        rw [upd_same, reTab_succ w t (i + 1), List.map_append]
        rfl
    · rintro σ H2 ⟨v, rfl, s2, h2, h3⟩
      exact ⟨_, rfl, k q H2 (s1.free hq) s2 h3⟩
end
end FW
namespace FW
open PySem L2
/-! ### firstword.waiting: what is held -/
def heldT (q : Nat) (w : List Nat) (n : Nat) : List Nat := (List.range n).map fun k => phi q w (w.take k)
theorem heldT_len (q : Nat) (w : List Nat) (n : Nat) : (heldT q w n).length = n := by simp [heldT]
theorem heldT_get {q : Nat} {w : List Nat} {n k : Nat} (h : k < n) : (heldT q w n)[k]? = some (phi q w (w.take k)) := by simp [heldT, h]
theorem heldT_succ (q : Nat) (w : List Nat) (n : Nat) : heldT q w (n + 1) = heldT q w n ++ [phi q w (w.take n)] := range_map_succ _ _
def spHeld : Sp := fun vs H Q _ => ∃ (q : Nat) (w : List Nat), vs = [vi q, .str (tx w)] ∧ 2 ≤ q ∧ q ≤ 26 ∧ w ≠ [] ∧ w.length ≤ 9000 ∧ ∀ p H', H p = none → Same H H' → H' p = some (.lst ((heldT q w (w.length + 1)).map vi)) → Q (.ref p) H'
section
variable {P : Program} {w : World} {K : PySem.W.Frag} {mg : Str → Option Value} {base : Heap}
theorem scHeld : FnScope ["sides", "word", "shorter", "held", "power", "count"] ["sides", "word"] (defScope sHeld) := ⟨rfl, rfl, rfl, by decide +kernel, rfl, by decide +kernel, by decide +kernel⟩
theorem ok_held {f fH : Addr} {fd dH : FuncData} (F : Fun K "held_by_count" "held_by_count" sHeld f fd) (B : Bl mg) (GH : Gf P w K mg base 2 "shorter_beginnings" ["word"] spSh fH dH) : FnOk P w K mg base CX0 3 f fd ["sides", "word"] spHeld := by
  refine F.ok scHeld (fun vs H Q E h => ?_) (fun cdv A outer s H vs Q E hr h => ?_)
  · obtain ⟨q, w, rfl, _⟩ := h
    rfl
  · obtain ⟨q, w, rfl, h2, h26, hne, hw, k⟩ := h
    refine ⟨_, pss_cons (ps_set (i := 2) scHeld.nd rfl (Or.inl rfl) (pe_call GH.ok hr rfl GH.mg GH.kp GH.bd .nil pass0 (pa_cons (pv 1) pa_nil)))
      (pss_cons (ps_set (i := 3) scHeld.nd rfl (Or.inl rfl) (pe_lst (pa_cons pe_int pa_nil)))
      (pss_cons (ps_set (i := 4) scHeld.nd rfl (Or.inl rfl) pe_int)
      (pss_cons (ps_for PassesOwn.never rfl (pi_range2 rfl B.range (pa_cons pe_int (pa_cons (pe_op op_add (pe_callB call_len_tx rfl B.len (by decide +kernel) (pa_cons (pv 1) pa_nil)) pe_int) pa_nil))) (pg_name (i := 5) scHeld.nd rfl (Or.inl rfl))
        (pss_cons (ps_set (i := 4) scHeld.nd rfl (Or.inl rfl) (pe_op op_mul (pv 4) (pv 0)))
        (pss_one (ps_expr (pe_bm PySem.F.plainAttrs_list PySem.F.slot_list_append PySem.F.type_list_append mt_append (pv 3) (pa_cons (pe_op op_add (pv 4) (pe_ix ix_list (pv 3) (pe_ix ix_list (pv 2) (pv 5) (fun _ _ => rfl)) (fun _ _ => rfl))) pa_nil))))))
      (pss_one (ps_ret (pv 3)))))), ?_⟩
    refine ⟨_, rfl, w, rfl, hne, by omega, fun sh H1 hsh s1 h1 => ?_⟩
    refine ⟨by show 1 ≤ sizeLine; decide, fun p hp => ?_⟩
    have nsp : sh ≠ p := ne_of_none h1 hp
    refine ⟨_, rfl, w, rfl, sz (by omega), _, _, rfl, rfl, _, _, rfl, ⟨by omega, by omega, by omega, by omega⟩, ?_⟩
    rw [show ((w.length : Int) + 1 - 1).toNat = w.length by omega]
    refine for_range (n := w.length) (fun i σ H2 => ∃ v5, σ = [some (vi q), some (.str (tx w)), some (.ref sh), some (.ref p), some (vi (q ^ i)), v5] ∧ Same H H2 ∧ H2 sh = some (.lst ((shTab w (w.length + 1)).map vi)) ∧ H2 p = some (.lst ((heldT q w (i + 1)).map vi)))
      ⟨none, rfl, s1.upd (s1.free hp), by rw [upd_ne nsp]; exact h1, ?_⟩ ?_ ?_
    · rw [upd_same, heldT_succ]
      show _ = some (HO.lst [vi (phi q w (w.take 0))])
      rw [List.take_zero, phi_nil]
      rfl
    · rintro i σ H2 hi ⟨v5, rfl, s2, h2s, h2p⟩
      have e5 : (1 : Int) + (i : Int) = ((i + 1 : Nat) : Int) := by omega
      rw [e5]
      have hb := bord_lt (w := w) (k := i + 1) (by omega) (by omega)
      refine ⟨_, rfl, _, rfl, _, _, rfl, rfl, .inr ⟨by omega, by omega⟩, ?_⟩
      refine ⟨_, rfl, .inl ⟨rfl, _, SqL.of h2p⟩, _, rfl, _, rfl, _, rfl, _, rfl, sh, _, _, _, rfl, rfl, SqL.of h2s, atI_nat (by rw [List.getElem?_map, shTab_get (by omega)]; rfl), p, _, _, _, rfl, rfl, SqL.of h2p, atI_nat (by rw [List.getElem?_map, heldT_get (by omega)]; rfl), _, _, rfl, rfl, p, _, _, rfl, rfl, h2p, ?_, ?_⟩
      · rw [List.length_map, heldT_len]; exact sz' (by omega)
      · have ep : ((q ^ i : Nat) : Int) * (q : Int) = ((q ^ (i + 1) : Nat) : Int) := by rw [Nat.pow_succ, Int.natCast_mul]
        dsimp only
        refine ⟨_, by rw [ep]; rfl, s2.upd (s1.free hp), by rw [upd_ne nsp]; exact h2s, ?_⟩
        rw [upd_same, heldT_succ q w (i + 1), List.map_append]
        congr 3
        have eb := phi_bord (q := q) (w := w) (k := i + 1) (by omega) (by omega)
        rw [ep, eb]
        show [V.int _] = [V.int _]
        congr 2
    · rintro σ H2 ⟨v5, rfl, s2, h2s, h2p⟩
      exact ⟨_, rfl, k p H2 (s1.free hp) s2 h2p⟩
end
end FW
namespace FW
open PySem L2 L2T
/-! ### the states of two words, in the order of texts -/
def prefs (a : List Nat) : List (List Nat) := (List.range (a.length + 1)).map (a.take ·)
def bgn (a b : List Nat) : List (List Nat) := prefs a ++ prefs b
def leL (x y : List Nat) : Bool := decide (x ≤ y)
def stS (a b : List Nat) : List (List Nat) := ((ded ((bgn a b).map tx)).map fun x => x.cps.toList).mergeSort leL
theorem mem_prefs {a s : List Nat} : s ∈ prefs a ↔ s <+: a := by
  unfold prefs
  rw [List.mem_map]
  constructor
  · rintro ⟨k, _, rfl⟩
    exact List.take_prefix _ _
  · intro h
    refine ⟨s.length, List.mem_range.mpr (Nat.lt_succ_of_le h.length_le), ?_⟩
    exact (List.prefix_iff_eq_take.mp h).symm
theorem ded_mem (l : List Str) (y : Str) : y ∈ ded l ↔ y ∈ l := (ded_all l.length l rfl).2.1 y
theorem ded_nd (l : List Str) : (ded l).Nodup := (ded_all l.length l rfl).1
theorem stS_perm (a b : List Nat) : ((stS a b).map tx).Perm (ded ((bgn a b).map tx)) := by
  have h := (List.mergeSort_perm ((ded ((bgn a b).map tx)).map fun x => x.cps.toList) leL).map tx
  rw [List.map_map] at h
  have e : (tx ∘ fun x : Str => x.cps.toList) = id := funext fun x => tx_of x
  rw [e, List.map_id] at h
  exact h
theorem stS_pw (a b : List Nat) : ((stS a b).map tx).Pairwise leS := by
  rw [List.pairwise_map]
  have h := List.pairwise_mergeSort (le := leL) (fun x y z h1 h2 => decide_eq_true (List.le_trans (of_decide_eq_true h1) (of_decide_eq_true h2)))
    (fun x y => by rw [Bool.or_eq_true]; exact (List.le_total x y).imp decide_eq_true decide_eq_true) ((ded ((bgn a b).map tx)).map fun x => x.cps.toList)
  exact h.imp fun {x y} z => of_decide_eq_true z
theorem stS_only {a b : List Nat} {ss : List Str} (p : ss.Perm (ded ((bgn a b).map tx))) (h : PyProof.Rows.sortedS ss = true) : ss = (stS a b).map tx := pw_uniq (p.trans (stS_perm a b).symm) (sorted_pw ss h) (stS_pw a b)
theorem mem_stS {a b s : List Nat} : s ∈ stS a b ↔ isSt a b s = true := by
  have h1 : s ∈ stS a b ↔ tx s ∈ (stS a b).map tx := ⟨fun h => List.mem_map.mpr ⟨s, h, rfl⟩, fun h => by
    obtain ⟨t, ht, e⟩ := List.mem_map.mp h
    rw [← tx_inj e]; exact ht⟩
  rw [h1, (stS_perm a b).mem_iff, ded_mem]
  have h2 : tx s ∈ (bgn a b).map tx ↔ s ∈ bgn a b := ⟨fun h => by
    obtain ⟨t, ht, e⟩ := List.mem_map.mp h
    rw [← tx_inj e]; exact ht, fun h => List.mem_map.mpr ⟨s, h, rfl⟩⟩
  rw [h2]
  unfold bgn isSt
  rw [List.mem_append, mem_prefs, mem_prefs, Bool.or_eq_true, decide_eq_true_eq, decide_eq_true_eq]
theorem stS_nd (a b : List Nat) : (stS a b).Nodup := by
  have h := (stS_perm a b).symm.nodup (ded_nd _)
  unfold List.Nodup at h ⊢
  rw [List.pairwise_map] at h
  exact h.imp fun {x y} z e => z (by rw [e])
theorem stS_len (a b : List Nat) : (stS a b).length ≤ a.length + b.length + 2 := by
  have h := (stS_perm a b).length_eq
  rw [List.length_map] at h
  have h2 := (ded_all ((bgn a b).map tx).length ((bgn a b).map tx) rfl).2.2
  rw [List.length_map] at h2
  unfold bgn prefs at h2
  rw [List.length_append, List.length_map, List.length_map, List.length_range, List.length_range] at h2
  unfold bgn prefs at h
  omega
theorem two_of {α : Type} {l : List α} {x y : α} (hx : x ∈ l) (hy : y ∈ l) (hne : x ≠ y) : 2 ≤ l.length := by
  cases l with
  | nil => cases hx
  | cons a l =>
    cases l with
    | nil =>
      have e1 : x = a := by simpa using hx
      have e2 : y = a := by simpa using hy
      exact absurd (e1.trans e2.symm) hne
    | cons b l => simp
theorem bgn_two {a : List Nat} (b : List Nat) (ha : a ≠ []) : 2 ≤ (ded ((bgn a b).map tx)).length := by
  have m : ∀ s, isSt a b s = true → tx s ∈ ded ((bgn a b).map tx) := fun s hs => (stS_perm a b).mem_iff.mp (List.mem_map.mpr ⟨s, mem_stS.mpr hs, rfl⟩)
  refine two_of (m [] (isSt_nil a b)) (m a (by have := isSt_takeA a b a.length; rwa [List.take_length] at this)) fun e => ha (tx_inj e).symm
def sts (a b : List Nat) : List V := (stS a b).map fun s => V.str (tx s)
/-- the first state is the empty one -/
theorem stS_first (a b : List Nat) : ∃ r, stS a b = [] :: r := by
  have m : [] ∈ stS a b := mem_stS.mpr (isSt_nil a b)
  have pw := stS_pw a b
  cases h : stS a b with
  | nil => rw [h] at m; cases m
  | cons x r =>
    rw [h] at m pw
    rcases List.mem_cons.mp m with e | e
    · exact ⟨r, by rw [← e]⟩
    · rw [List.map_cons, List.pairwise_cons] at pw
      have le : leS (tx x) (tx []) := pw.1 _ (List.mem_map.mpr ⟨[], e, rfl⟩)
      have le' : x ≤ [] := le
      have : x = [] := by
        cases x with
        | nil => rfl
        | cons c x => exact absurd (List.nil_lt_cons c x) (List.not_lt.mpr le')
      exact ⟨r, by rw [this]⟩
def spSts : Sp := fun vs H Q _ => ∃ a b, vs = [.str (tx a), .str (tx b)] ∧ a ≠ [] ∧ a.length ≤ 1000 ∧ b.length ≤ 1000 ∧ ∀ p H', H p = none → Same H H' → H' p = some (.lst (sts a b)) → Q (.ref p) H'
theorem lc_prefs {own : Str} {cap : Nat} {σ : St} {H : Hp} {Q : VK} {a : List Nat} (ha : a.length ≤ 1000) (hs : σ.getD cap none = some (.str (tx a)))
    (fin : ∀ D H', H D = none → Same H H' → H' D = some (.lst ((prefs a).map fun s => V.str (tx s))) → Q (.ref D) H') :
    tLcB [own] [cap] (gName 0) tYes (tSl rSlS (tVar 1) tNoPart (tPart (tVar 0))) (Itr 0 ((a.length : Int) + 1).toNat) σ H Q := by
  have en : ((a.length : Int) + 1).toNat = a.length + 1 := by omega
  rw [en]
  refine lcb1 (a.length + 1) (fun i => .str (tx (a.take i))) (sz (by omega)) (fun i H1 hi s1 => hi) (fun H1 s1 => Nat.le_refl _) ?_ ?_
  · rintro i H1 K1 hi s1 k1 x _ ⟨rfl, rfl⟩
    refine ⟨lcExt_set (by simp), ?_⟩
    have st : (lcSt [own] [cap] σ).set 0 (some (V.int (0 + (i : Int)))) = [some (.int (i : Int)), some (.str (tx a))] := by
      show [some (V.int (0 + (i : Int))), σ.getD cap none] = _
      rw [hs, Int.zero_add]
    rw [st]
    refine ⟨_, rfl, _, rfl, _, rfl, a, rfl, sz (by omega), ?_⟩
    rw [cutL_to]
    exact k1 _ (Same.refl _)
  · intro D H' hD hs hd
    refine fin D H' hD hs ?_
    rw [hd]
    unfold prefs
    rw [List.map_map]
    rfl
end FW
namespace FW
open PySem L2 L2T
/-! ### firstword.answers, firstword.waiting: beginnings, margins, Race made -/
def marg (q : Nat) (a b s : List Nat) : Int := (phi q a s : Int) - (phi q b s : Int)
def margT (q : Nat) (a b t : List Nat) : List Int := (List.range (t.length + 1)).map fun i => marg q a b (t.take i)
theorem margT_get {q : Nat} {a b t : List Nat} {i : Nat} (h : i ≤ t.length) : (margT q a b t)[i]? = some (marg q a b (t.take i)) := by
  unfold margT
  rw [List.getElem?_map, List.getElem?_range (by omega)]
  rfl
theorem margT_len (q : Nat) (a b t : List Nat) : (margT q a b t).length = t.length + 1 := by simp [margT]
theorem marg_part (q : Nat) (a b s : List Nat) : marg q a b s - marg q a b b = partZ q a b s := by
  unfold marg partZ
  omega
theorem marg_whole (q : Nat) (a b : List Nat) : marg q a b a - marg q a b b = wholeZ q a b := marg_part q a b a
def spBegO : Sp := fun vs H Q _ => ∃ a, vs = [.str (tx a)] ∧ a.length ≤ 1000 ∧ ∀ p H', H p = none → Same H H' → H' p = some (.lst ((prefs a).map fun s => V.str (tx s))) → Q (.ref p) H'
def spMarg : Sp := fun vs H Q _ => ∃ (q : Nat) (a b t : List Nat), vs = [vi q, .str (tx a), .str (tx b), .str (tx t)] ∧ 2 ≤ q ∧ q ≤ 26 ∧ a ≠ [] ∧ b ≠ [] ∧ a.length ≤ 1000 ∧ b.length ≤ 1000 ∧ t.length ≤ 1000 ∧
  ∀ p H', H p = none → Same H H' → H' p = some (.lst ((margT q a b t).map V.int)) → Q (.ref p) H'
/-- what the text has of the class Race -/
structure RaceC (K : PySem.W.Frag) (mg : Str → Option Value) (C fI fS : Addr) : Prop where
  mg : mg "Race" = some (.ref C)
  cl : Cls K C
  make : Mk K C fI
  sh : Meth K C "shows" fS
  na : NoAttr K C "parts"
  nw : NoAttr K C "whole"
def spRaceI (K : PySem.W.Frag) (C : Addr) : Sp := fun vs H Q _ => ∃ (x dx p : Addr) (ys : List V) (wv : V), vs = [.ref x, .ref p, wv] ∧ H x = some (.ins C dx []) ∧ SqL K H p ys ∧
  ∀ l H', H l = none → H' = upd (upd (upd H l (.lst ys)) x (.ins C dx [("parts", .ref l)])) x (.ins C dx [("parts", .ref l), ("whole", wv)]) → Q .non H'
/-- an object of Race at x -/
def RaceAt (H : Hp) (C x : Addr) (ps : List Int) (wh : Int) : Prop := ∃ dx l, H x = some (.ins C dx [("parts", .ref l), ("whole", .int wh)]) ∧ H l = some (.lst (ps.map V.int))
section
variable {P : Program} {w : World} {K : PySem.W.Frag} {mg : Str → Option Value} {base : Heap}
theorem scBegO : FnScope ["word"] ["word"] (defScope sBegO) := ⟨rfl, rfl, rfl, by decide +kernel, rfl, by decide +kernel, by decide +kernel⟩
theorem ok_begO {f : Addr} {fd : FuncData} (F : Fun K "beginnings_of" "beginnings_of" sBegO f fd) (B : Bl mg) : FnOk P w K mg base CX0 1 f fd ["word"] spBegO := by
  refine F.ok scBegO (fun vs H Q E h => ?_) (fun cdv A outer s H vs Q E hr h => ?_)
  · obtain ⟨a, rfl, _⟩ := h
    rfl
  · obtain ⟨a, rfl, la, k⟩ := h
    refine ⟨_, pss_one (ps_ret (pe_lc (N := ["word"]) (sc := defScope sBegO) (own := ["count"]) (cap := [0]) ⟨rfl, by decide +kernel, by decide +kernel, by decide +kernel, by decide +kernel⟩ (pi_range1 rfl B.range (pa_cons (pe_op op_add (pe_callB call_len_tx rfl B.len (by decide +kernel) (pa_cons (pv 0) pa_nil)) pe_int) pa_nil))
      (fun _ _ _ _ _ => pg_name (i := 0) (show (lcN ["word"] ["count"] [0]).Nodup by decide +kernel) rfl (Or.inl rfl) (.inr rfl)) (fun _ _ _ _ _ => pif_nil) (fun _ _ _ _ _ => pe_slice sl_str (pv 1) po_none (po_some (pv 0))))), ?_⟩
    exact ⟨_, rfl, a, rfl, sz (by omega), _, _, rfl, rfl, _, rfl, by omega, by omega, lc_prefs la rfl fun D1 H1 f1 s1 d1 => k D1 H1 f1 s1 d1⟩
theorem scBeg : FnScope ["one", "other"] ["one", "other"] (defScope sBeg) := ⟨rfl, rfl, rfl, by decide +kernel, rfl, by decide +kernel, by decide +kernel⟩
theorem ok_beg {f fO : Addr} {fd dO : FuncData} (F : Fun K "beginnings" "beginnings" sBeg f fd) (B : Bl mg) (GO : Gf P w K mg base 1 "beginnings_of" ["word"] spBegO fO dO) : FnOk P w K mg base CX0 2 f fd ["one", "other"] spSts := by
  refine F.ok scBeg (fun vs H Q E h => ?_) (fun cdv A outer s H vs Q E hr h => ?_)
  · obtain ⟨a, b, rfl, _⟩ := h
    rfl
  · obtain ⟨a, b, rfl, ha, la, lb, k⟩ := h
    refine ⟨_, pss_one (ps_ret (pe_callB (call_sortedT rfl) rfl B.sorted (by decide +kernel) (pa_cons (pe_callTy (call_setT rfl) rfl B.set (by decide +kernel) (pa_cons (pe_op op_cat
      (pe_call GO.ok hr rfl GO.mg GO.kp GO.bd .nil pass0 (pa_cons (pv 0) pa_nil)) (pe_call GO.ok hr rfl GO.mg GO.kp GO.bd .nil pass0 (pa_cons (pv 1) pa_nil))) pa_nil)) pa_nil))), ?_⟩
    refine ⟨_, rfl, a, rfl, la, fun D1 H1 f1 s1 d1 => ⟨_, rfl, b, rfl, lb, fun D2 H2 f2 s2 d2 => ?_⟩⟩
    refine ⟨D1, D2, _, _, rfl, rfl, s2 _ _ d1, d2, ?_, fun p hp0 => ?_⟩
    · unfold prefs
      simp only [List.length_map, List.length_range]
      exact sz (by omega)
    · have e : ((prefs a).map fun s => V.str (tx s)) ++ ((prefs b).map fun s => V.str (tx s)) = ((bgn a b).map tx).map V.str := by
        unfold bgn
        rw [List.map_map, List.map_append]
        rfl
      rw [e]
      refine ⟨p, _, rfl, SqL.of upd_same, ?_, fun S hS => ?_⟩
      · rw [List.length_map]
        unfold bgn prefs
        simp only [List.length_append, List.length_map, List.length_range]
        show _ < 4096
        omega
      · refine ⟨S, _, _, rfl, upd_same, fun h z => z, bgn_two b ha, fun R ss hR hp hso => ?_⟩
        have es := stS_only hp hso
        have s0 : Same H (upd H2 p (.lst (((bgn a b).map tx).map V.str))) := (s1.trans s2).upd ((s1.trans s2).free hp0)
        have s3 := s0.upd (o := .ext fun h => SetX P w h S (ded ((bgn a b).map tx))) (s0.free hS)
        rw [es]
        refine k R _ (s3.free hR) (s3.upd (s3.free hR)) ?_
        rw [upd_same, List.map_map]
        rfl
abbrev NMg : List Str := ["sides", "one", "other", "throws", "ones", "others", "reached", "other_reached"]
theorem scMarg : FnScope NMg ["sides", "one", "other", "throws"] (defScope sMarg) := ⟨rfl, rfl, rfl, by decide +kernel, rfl, by decide +kernel, by decide +kernel⟩
theorem ok_marg {f fH fR : Addr} {fd dH dR : FuncData} (F : Fun K "margins_by_count" "margins_by_count" sMarg f fd) (B : Bl mg) (GH : Gf P w K mg base 3 "held_by_count" ["sides", "word"] spHeld fH dH) (GR : Gf P w K mg base 3 "reached_by_count" ["word", "throws"] spRe fR dR) :
    FnOk P w K mg base CX0 4 f fd ["sides", "one", "other", "throws"] spMarg := by
  refine F.ok scMarg (fun vs H Q E h => ?_) (fun cdv A outer s H vs Q E hr h => ?_)
  · obtain ⟨q, a, b, t, rfl, _⟩ := h
    rfl
  · obtain ⟨q, a, b, t, rfl, h2, h26, ha, hb, la, lb, lt, k⟩ := h
    refine ⟨_, pss_cons (ps_set (i := 4) scMarg.nd rfl (Or.inr rfl) (pe_call GH.ok hr rfl GH.mg GH.kp GH.bd .nil pass0 (pa_cons (pv 0) (pa_cons (pv 1) pa_nil))))
      (pss_cons (ps_set (i := 5) scMarg.nd rfl (Or.inr rfl) (pe_call GH.ok hr rfl GH.mg GH.kp GH.bd .nil pass0 (pa_cons (pv 0) (pa_cons (pv 2) pa_nil))))
      (pss_cons (ps_set (i := 6) scMarg.nd rfl (Or.inl rfl) (pe_call GR.ok hr rfl GR.mg GR.kp GR.bd .nil pass0 (pa_cons (pv 1) (pa_cons (pv 3) pa_nil))))
      (pss_cons (ps_set (i := 7) scMarg.nd rfl (Or.inl rfl) (pe_call GR.ok hr rfl GR.mg GR.kp GR.bd .nil pass0 (pa_cons (pv 2) (pa_cons (pv 3) pa_nil))))
      (pss_one (ps_ret (pe_lc (N := NMg) (sc := defScope sMarg) (own := ["count", "other_count"]) (cap := [4, 5]) (g := gTup K 2 (gCons (gName 0) (gCons (gName 1) gNil)))
        (te := tOp (rI0 fun i j => .int (i - j)) (tOp (rIxL K) (tVar 2) (tVar 0)) (tOp (rIxL K) (tVar 3) (tVar 1))) ⟨rfl, by decide +kernel, by decide +kernel, by decide +kernel, by decide +kernel⟩
        (pi_zip rfl B.zip (pa_cons (pv 6) (pa_cons (pv 7) pa_nil)))
        (fun _ _ _ _ _ => pg_tup rfl (pgs_cons (pg_name (i := 0) (show (lcN NMg ["count", "other_count"] [4, 5]).Nodup by decide +kernel) rfl (Or.inl rfl) (.inr rfl)) (pgs_cons (pg_name (i := 1) (show (lcN NMg ["count", "other_count"] [4, 5]).Nodup by decide +kernel) rfl (Or.inl rfl) (.inr rfl)) pgs_nil)))
        (fun _ _ _ _ _ => pif_nil) (fun _ _ _ _ _ => pe_op op_sub (pe_ix ix_list (pv 2) (pv 0) (fun _ _ => rfl)) (pe_ix ix_list (pv 3) (pv 1) (fun _ _ => rfl))))))))), ?_⟩
    refine ⟨_, rfl, _, rfl, q, a, rfl, h2, h26, ha, by omega, fun p1 H1 f1 s1 d1 => ?_⟩
    refine ⟨_, rfl, _, rfl, q, b, rfl, h2, h26, hb, by omega, fun p2 H2 f2 s2 d2 => ?_⟩
    refine ⟨_, rfl, _, rfl, a, t, rfl, ha, by omega, by omega, fun p3 H3 f3 s3 d3 => ?_⟩
    refine ⟨_, rfl, _, rfl, b, t, rfl, hb, by omega, by omega, fun p4 H4 f4 s4 d4 => ?_⟩
    have e1 := s4 _ _ (s3 _ _ (s2 _ _ d1))
    have e2 := s4 _ _ (s3 _ _ d2)
    have e3 := s4 _ _ d3
    have s04 : Same H H4 := ((s1.trans s2).trans s3).trans s4
    have g3 : ∀ i, i < t.length + 1 → ((reTab a t (t.length + 1)).map vi)[i]? = some (vi (lng a (t.take i))) := fun i hi => by rw [List.getElem?_map, reTab_get hi]; rfl
    have g4 : ∀ i, i < t.length + 1 → ((reTab b t (t.length + 1)).map vi)[i]? = some (vi (lng b (t.take i))) := fun i hi => by rw [List.getElem?_map, reTab_get hi]; rfl
    have l3 : ((reTab a t (t.length + 1)).map vi).length = t.length + 1 := by unfold reTab; rw [List.length_map, List.length_map, List.length_range]
    refine ⟨_, rfl, _, rfl, p3, p4, rfl, ⟨_, SqL.of e3⟩, ⟨_, SqL.of d4⟩, lcb1 (t.length + 1) (fun i => .int (marg q a b (t.take i))) (sz (by omega))
      (fun i H' hi hs => ⟨_, _, _, _, SqL.of (hs _ _ e3), SqL.of (hs _ _ d4), g3 i hi, g4 i hi⟩) (fun H' hs => ⟨_, _, SqL.of (hs _ _ e3), SqL.of (hs _ _ d4), .inl (Nat.le_of_eq l3)⟩) ?_ ?_⟩
    · rintro i H5 K1 hi hs k1 v H6 ⟨T, x, y, hT, hx, hy, rfl, rfl⟩
      have ex : x = vi (lng a (t.take i)) := Option.some.inj ((hx _ (SqL.of (hs _ _ e3))).symm.trans (g3 i hi))
      have ey : y = vi (lng b (t.take i)) := Option.some.inj ((hy _ (SqL.of (hs _ _ d4))).symm.trans (g4 i hi))
      subst ex ey
      have s6 : Same H5 (upd H5 T (.tup [vi (lng a (t.take i)), vi (lng b (t.take i))])) := (Same.refl _).upd hT
      refine ⟨T, _, rfl, SqT.of upd_same, rfl, _, _, rfl, _, _, rfl, rfl, lcExt_set2 (by decide) (by decide), ?_⟩
      have la' := lng_le a (t.take i)
      have lb' := lng_le b (t.take i)
      refine ⟨_, rfl, _, rfl, p1, _, _, _, rfl, rfl, SqL.of (s6 _ _ (hs _ _ e1)), atI_nat (by rw [List.getElem?_map, heldT_get (by omega)]; rfl), _, rfl, _, rfl, p2, _, _, _, rfl, rfl, SqL.of (s6 _ _ (hs _ _ e2)), atI_nat (by rw [List.getElem?_map, heldT_get (by omega)]; rfl), _, _, rfl, rfl, ?_⟩
      have := k1 _ s6
      unfold marg at this
      rw [phi_lng, phi_lng]
      exact this
    · intro D H' hD hs hd
      refine k D H' (s04.free hD) (s04.trans hs) ?_
      rw [hd]
      unfold margT
      rw [List.map_map]
      rfl
theorem scRaceI : FnScope ["self", "parts", "whole"] ["self", "parts", "whole"] (defScope sRaceI) := ⟨rfl, rfl, rfl, by decide +kernel, rfl, by decide +kernel, by decide +kernel⟩
theorem ok_raceI {f C fS : Addr} {fd : FuncData} (F : Fun K "__init__" "Race.__init__" sRaceI f fd) (B : Bl mg) (W : RaceC K mg C f fS) : FnOk P w K mg base CX0 1 f fd ["self", "parts", "whole"] (spRaceI K C) := by
  refine F.ok scRaceI (fun vs H Q E h => ?_) (fun cdv A outer s H vs Q E hr h => ?_)
  · obtain ⟨x, dx, p, ys, wv, rfl, _⟩ := h
    rfl
  · obtain ⟨x, dx, p, ys, wv, rfl, hx, hS, k⟩ := h
    refine ⟨_, pss_cons (ps_fld (pv 0) (pe_callTy call_list_of rfl B.list (by decide +kernel) (pa_cons (pv 1) pa_nil)) rfl) (pss_one (ps_fld (pv 0) (pv 2) rfl)), ?_⟩
    refine ⟨_, rfl, p, ys, rfl, .inl hS, fun l hl => ⟨_, rfl, x, C, dx, [], rfl, by rw [upd_ne (ne_of_none hx hl)]; exact hx, W.cl, W.na, by decide, ?_⟩⟩
    exact ⟨_, rfl, _, rfl, x, C, dx, [("parts", .ref l)], rfl, upd_same, W.cl, W.nw, by show 1 < 1000; decide, k l _ hl rfl⟩
end
end FW
namespace FW
open PySem L2 L2T
/-! ### firstword.waiting: race -/
def partT (q : Nat) (a b : List Nat) : List Int := (stS a b).map (partZ q a b)
def spRace (C : Addr) : Sp := fun vs H Q _ => ∃ (q : Nat) (a b : List Nat), vs = [vi q, .str (tx a), .str (tx b)] ∧ 2 ≤ q ∧ q ≤ 26 ∧ a ≠ [] ∧ b ≠ [] ∧ a.length ≤ 1000 ∧ b.length ≤ 1000 ∧ (∀ c ∈ a, c ∈ alpha.take q) ∧ (∀ c ∈ b, c ∈ alpha.take q) ∧ ¬ a <:+: b ∧ ¬ b <:+: a ∧
  ∀ x H', H x = none → Same H H' → RaceAt H' C x (partT q a b) (wholeZ q a b) → Q (.ref x) H'
/-- the dict has the margin of each of these texts -/
def CovD (kvs : List (Key × V)) (q : Nat) (a b : List Nat) (S : List Nat → Prop) : Prop := ∀ s, S s → valV kvs (Sum.inr (tx s)) = some (.int (marg q a b s))
theorem CovD.put {kvs : List (Key × V)} {q : Nat} {a b : List Nat} {S S' : List Nat → Prop} (h : CovD kvs q a b S) (t : List Nat) (hS : ∀ s, S' s → S s ∨ s = t) : CovD (putK kvs (Sum.inr (tx t)) (.int (marg q a b t))) q a b S' := by
  intro s hs
  rw [valV_put]
  by_cases e : (Sum.inr (tx s) : Key) = Sum.inr (tx t)
  · rw [if_pos e]
    have : s = t := tx_inj (Sum.inr.inj e)
    rw [this]
  · rw [if_neg e]
    rcases hS s hs with z | z
    · exact h s z
    · exact absurd (by rw [z]) e
section
variable {P : Program} {w : World} {K : PySem.W.Frag} {mg : Str → Option Value} {base : Heap}
abbrev NRf : List Str := ["sides", "one", "other", "margins", "throws", "count", "margin", "parts"]
theorem scRaceF : FnScope NRf ["sides", "one", "other"] (defScope sRaceF) := ⟨rfl, rfl, rfl, by decide +kernel, rfl, by decide +kernel, by decide +kernel⟩
theorem ok_race {f C fI fS fc fw fm fb : Addr} {fd dI dc dw dm db : FuncData} (F : Fun K "race" "race" sRaceF f fd) (B : Bl mg) (W : RaceC K mg C fI fS) (FI : FnOk P w K mg base CX0 1 fI dI ["self", "parts", "whole"] (spRaceI K C)) (bI : Binds K dI ["self", "parts", "whole"] [])
    (GC : Gf P w K mg base 2 "check_sides" ["sides"] spChS fc dc) (GW : Gf P w K mg base 3 "check_word" ["sides", "word"] spChW fw dw) (GM : Gf P w K mg base 4 "margins_by_count" ["sides", "one", "other", "throws"] spMarg fm dm) (GB : Gf P w K mg base 2 "beginnings" ["one", "other"] spSts fb db) :
    FnOk P w K mg base CX0 5 f fd ["sides", "one", "other"] (spRace C) := by
  refine F.ok scRaceF (fun vs H Q E h => ?_) (fun cdv A outer s H vs Q E hr h => ?_)
  · obtain ⟨q, a, b, rfl, _⟩ := h
    rfl
  · obtain ⟨q, a, b, rfl, h2, h26, ha, hb, la, lb, oa, ob, nab, nba, k⟩ := h
    have hu := hu_of hr
    have hr2 := hr.mono (show 2 ≤ 4 by decide)
    have hr3 := hr.mono (show 3 ≤ 4 by decide)
    have T6 : ∃ t, PSs (cxOf CX0 P w K mg base NRf "race" (defScope sRaceF) f cdv A outer s H E).nox ((defBody sRaceF).drop 6) t ∧ ∀ (v4 v5 v6 v7 : Option V) (d : Addr) (kvs : List (Key × V)) (H1 : Hp), Same H H1 → H1 d = some (.dK kvs) → CovD kvs q a b (fun s => s <+: a ∨ s <+: b) →
        t { nx := fun _ H' => Q .non H', rt := Q } [some (vi q), some (.str (tx a)), some (.str (tx b)), some (.ref d), v4, v5, v6, v7] H1 := by
      refine ⟨_, pss_cons (ps_set_lc (i := 7) (N := NRf) (sc := defScope sRaceF) (own := ["state"]) (cap := [3, 2]) (te := tOp (rI0 fun i j => .int (i - j)) (tDGet (tVar 1) (tVar 0)) (tDGet (tVar 1) (tVar 2))) scRaceF.nd rfl rfl ⟨rfl, by decide +kernel, by decide +kernel, by decide +kernel, by decide +kernel⟩
          (pi_list (pe_call GB.ok hr2 rfl GB.mg GB.kp GB.bd .nil pass0 (pa_cons (pv 1) (pa_cons (pv 2) pa_nil))))
          (fun _ _ _ _ _ => pg_name (i := 0) (show (lcN NRf ["state"] [3, 2]).Nodup by decide +kernel) rfl (Or.inl rfl) (.inr rfl)) (fun _ _ _ _ _ => pif_nil)
          (fun _ _ _ _ _ => pe_op op_sub (pe_dget hu (pv 1) (pv 0) (fun _ _ => rfl)) (pe_dget hu (pv 1) (pv 2) (fun _ _ => rfl))))
        (pss_one (ps_ret (pe_make W.make FI hr2 rfl W.mg bI .nil pass0 (pa_cons (pv 7) (pa_cons (pe_op op_sub (pe_dget hu (pv 3) (pv 1) (fun _ _ => rfl)) (pe_dget hu (pv 3) (pv 2) (fun _ _ => rfl))) pa_nil))))), ?_⟩
      intro v4 v5 v6 v7 d kvs H1 s1 hd cov
      have gb : valV kvs (Sum.inr (tx b)) = some (.int (marg q a b b)) := cov b (.inr (List.prefix_refl _))
      have ga : valV kvs (Sum.inr (tx a)) = some (.int (marg q a b a)) := cov a (.inl (List.prefix_refl _))
      have get : ∀ (H' : Hp) (s : List Nat), H' d = some (.dK kvs) → valV kvs (Sum.inr (tx s)) = some (.int (marg q a b s)) → DGet H' d (.str (tx s)) (some (.int (marg q a b s))) := fun H' s e z => by
        have := DGet.k (k := Sum.inr (tx s)) e
        rw [z] at this
        exact this
      refine ⟨_, rfl, _, rfl, a, b, rfl, ha, la, lb, fun p H2 hp s2 h2p => ?_⟩
      have hlen : (sts a b).length = (stS a b).length := by unfold sts; rw [List.length_map]
      have hl2 := stS_len a b
      have hget : ∀ i, i < (stS a b).length → (sts a b)[i]? = some (.str (tx ((stS a b).getD i []))) := fun i hi => by unfold sts; rw [List.getElem?_map, List.getD_eq_getElem?_getD, List.getElem?_eq_getElem hi]; rfl
      refine ⟨p, rfl, ⟨_, SqL.of h2p⟩, lcb1 (stS a b).length (fun i => .int (partZ q a b ((stS a b).getD i []))) (sz (by omega)) (fun i H' hi hs => ⟨_, _, SqL.of (hs _ _ h2p), hget i hi⟩) (fun H' hs => ⟨_, SqL.of (hs _ _ h2p), Nat.le_of_eq hlen⟩) ?_ ?_⟩
      · rintro i H3 K1 hi hs k1 x _ ⟨rfl, hy⟩
        have ex : x = .str (tx ((stS a b).getD i [])) := Option.some.inj ((hy _ (SqL.of (hs _ _ h2p))).symm.trans (hget i hi))
        subst ex
        have hm : (stS a b).getD i [] ∈ stS a b := by
          rw [List.getD_eq_getElem?_getD, List.getElem?_eq_getElem hi]
          exact List.getElem_mem hi
        have hst := mem_stS.mp hm
        unfold isSt at hst
        rw [Bool.or_eq_true, decide_eq_true_eq, decide_eq_true_eq] at hst
        have k1' := k1 _ (Same.refl _)
        rw [← marg_part] at k1'
        have gs := cov _ hst
        generalize (stS a b).getD i [] = st at *
        have hd3 := hs _ _ (s2 _ _ hd)
        exact ⟨lcExt_set (by decide), _, rfl, _, rfl, d, _, rfl, get _ _ hd3 gs, _, rfl, _, rfl, d, _, rfl, get _ _ hd3 gb, _, _, rfl, rfl, k1'⟩
      · intro D H3 hD s3 hdD
        have hd3 := s3 _ _ (s2 _ _ hd)
        refine ⟨_, rfl, _, rfl, _, rfl, d, _, rfl, get _ _ hd3 ga, _, rfl, _, rfl, d, _, rfl, get _ _ hd3 gb, _, _, rfl, rfl, ?_⟩
        intro x dx hx hdx hxd
        have s03 : Same H H3 := (s1.trans s2).trans s3
        have nDd : D ≠ dx := ne_of_none hdD hdx
        have nDx : D ≠ x := ne_of_none hdD hx
        refine ⟨x, dx, D, _, _, rfl, upd_same, SqL.of (by rw [upd_ne nDx, upd_ne nDd]; exact hdD), fun l H' hl eH => ⟨rfl, ?_⟩⟩
        have s3' : Same H (upd (upd H3 dx (.own x)) x (.ins C dx [])) := (s03.upd (s03.free hdx)).upd (s03.free hx)
        have nlx : l ≠ x := by
          rintro rfl
          rw [upd_same] at hl
          cases hl
        rw [eH]
        refine k x _ (s03.free hx) (((s3'.upd (s3'.free hl)).upd (s03.free hx)).upd (s03.free hx)) ⟨dx, l, ?_, ?_⟩
        · rw [upd_same]
          dsimp only
          rw [marg_whole]
        · rw [upd_ne nlx, upd_ne nlx, upd_same]
          unfold partT
          rw [List.map_map]
          congr 2
          exact range_map_getD (fun s => V.int (partZ q a b s)) [] _
    obtain ⟨t6, p6, r6⟩ := T6
    refine ⟨_, pss_cons (ps_expr (pe_call GC.ok hr2 rfl GC.mg GC.kp GC.bd .nil pass0 (pa_cons (pv 0) pa_nil)))
      (pss_cons (ps_expr (pe_call GW.ok hr3 rfl GW.mg GW.kp GW.bd .nil pass0 (pa_cons (pv 0) (pa_cons (pv 1) pa_nil))))
      (pss_cons (ps_expr (pe_call GW.ok hr3 rfl GW.mg GW.kp GW.bd .nil pass0 (pa_cons (pv 0) (pa_cons (pv 2) pa_nil))))
      (pss_cons (ps_if (PW.pt (pw_or (pt_cmpR op_in_tx (pv 1) (pv 2) rfl) (pw_or1 (pt_cmpR op_in_tx (pv 2) (pv 1) rfl)))) pss_never pss_nil)
      (pss_cons (ps_set (i := 3) scRaceF.nd rfl (Or.inr rfl) pe_dnewK)
      (pss_cons (ps_for PassesOwn.never rfl (pi_tup (pe_tup (pa_cons (pv 1) (pa_cons (pv 2) pa_nil)))) (pg_name (i := 4) scRaceF.nd rfl (Or.inl rfl))
        (pss_one (ps_for PassesOwn.never rfl (pi_enum rfl B.enumerate (pa_cons (pe_call GM.ok hr rfl GM.mg GM.kp GM.bd .nil pass0 (pa_cons (pv 0) (pa_cons (pv 1) (pa_cons (pv 2) (pa_cons (pv 4) pa_nil))))) pa_nil)) (pg_tup rfl (pgs_cons (pg_name (i := 5) scRaceF.nd rfl (Or.inl rfl)) (pgs_cons (pg_name (i := 6) scRaceF.nd rfl (Or.inl rfl)) pgs_nil)))
          (pss_one (ps_dput hu (pv 3) (pe_slice sl_str (pv 4) po_none (po_some (pv 5))) (pv 6) rfl)))))
      p6))))), ?_⟩
    refine ⟨_, rfl, q, rfl, h2, h26, _, rfl, _, rfl, q, a, rfl, h2, h26, by omega, oa, ha, fun H1 s1 => ⟨_, rfl, _, rfl, q, b, rfl, h2, h26, by omega, ob, hb, fun H2 s2 => ?_⟩⟩
    refine ⟨_, rfl, _, rfl, a, b, rfl, rfl, _, rfl, ?_⟩
    rw [decide_eq_false nab]
    refine iteF ⟨_, rfl, _, rfl, b, a, rfl, rfl, _, rfl, ?_⟩
    rw [decide_eq_false nba]
    refine iteF ?_
    intro d hd0
    have s02 : Same H H2 := s1.trans s2
    have Hd : H d = none := s02.free hd0
    refine ⟨_, rfl, _, rfl, by show 2 ≤ sizeLine; decide, fun T hT => ⟨T, rfl, ⟨_, SqT.of upd_same⟩, ?_⟩⟩
    have ndT : d ≠ T := by
      rintro rfl
      rw [upd_same] at hT
      cases hT
    have hT2 : H2 T = none := by rw [upd_ne ndT.symm] at hT; exact hT
    have HT : H T = none := s02.free hT2
    refine for_tup (xs := [V.str (tx a), V.str (tx b)]) (fun i σ H3 => ∃ v4 v5 v6 kvs, σ = [some (vi q), some (.str (tx a)), some (.str (tx b)), some (.ref d), v4, v5, v6, none] ∧ Same H H3 ∧ H3 T = some (.tup [V.str (tx a), V.str (tx b)]) ∧ H3 d = some (.dK kvs) ∧ kvs.length ≤ i * 1001 ∧ CovD kvs q a b (fun s => (0 < i ∧ s <+: a) ∨ (1 < i ∧ s <+: b)))
      ⟨none, none, none, [], rfl, (s02.upd Hd).upd HT, upd_same, by rw [upd_ne ndT]; exact upd_same, Nat.zero_le _, fun s hs => by rcases hs with ⟨h, _⟩ | ⟨h, _⟩ <;> omega⟩ (fun _ _ H3 _ ⟨_, _, _, _, _, _, h, _⟩ => SqT.of h) ?_ ?_
    · rintro i x σ H3 hx ⟨v4, v5, v6, kvs, rfl, s3, h3T, h3d, hk3, cov3⟩
      obtain ⟨t, rfl, lt, hi2, hcov⟩ : ∃ t, x = .str (tx t) ∧ t.length ≤ 1000 ∧ i < 2 ∧ ∀ s, ((0 < i + 1 ∧ s <+: a) ∨ (1 < i + 1 ∧ s <+: b)) → ((0 < i ∧ s <+: a) ∨ (1 < i ∧ s <+: b)) ∨ s <+: t := by
        match i, hx with
        | 0, hx => exact ⟨a, (Option.some.inj hx).symm, la, by omega, fun s hs => by rcases hs with ⟨_, h⟩ | ⟨h, _⟩; exact .inr h; omega⟩
        | 1, hx => exact ⟨b, (Option.some.inj hx).symm, lb, by omega, fun s hs => by rcases hs with ⟨_, h⟩ | ⟨_, h⟩; exact .inl (.inl ⟨by omega, h⟩); exact .inr h⟩
      refine ⟨_, rfl, _, rfl, _, rfl, _, rfl, q, a, b, t, rfl, h2, h26, ha, hb, la, lb, lt, fun M H4 hM s4 h4M => ?_⟩
      have ndM : d ≠ M := ne_of_none h3d hM
      have hml : ((margT q a b t).map V.int).length = t.length + 1 := by rw [List.length_map, margT_len]
      refine ⟨M, rfl, ⟨_, SqL.of h4M⟩, for_enum (xs := (margT q a b t).map V.int) (fun j σ H5 => ∃ v5 v6 kvs', σ = [some (vi q), some (.str (tx a)), some (.str (tx b)), some (.ref d), some (.str (tx t)), v5, v6, none] ∧ Same H H5 ∧ H5 T = some (.tup [V.str (tx a), V.str (tx b)]) ∧ H5 M = some (.lst ((margT q a b t).map V.int)) ∧ H5 d = some (.dK kvs') ∧ kvs'.length ≤ i * 1001 + j ∧
          CovD kvs' q a b (fun s => ((0 < i ∧ s <+: a) ∨ (1 < i ∧ s <+: b)) ∨ ∃ m, m < j ∧ s = t.take m)) ⟨_, _, kvs, rfl, s3.trans s4, s4 _ _ h3T, h4M, s4 _ _ h3d, by omega, fun s hs => ?_⟩ (fun _ _ H5 ⟨_, _, _, _, _, _, h, _⟩ => SqL.of h) ?_ ?_⟩
      · rcases hs with h | ⟨m, hm, _⟩
        · exact cov3 s h
        · omega
      · rintro j y T' σ H5 hy hT' ⟨v5, v6, kvs', rfl, s5, h5T, h5M, h5d, hk5, cov5⟩
        have hj : j < t.length + 1 := by have := (List.getElem?_eq_some_iff.mp hy).1; omega
        have ey : y = .int (marg q a b (t.take j)) := by
          rw [List.getElem?_map, margT_get (by omega)] at hy
          exact (Option.some.inj hy).symm
        subst ey
        have t6 : Same H5 (upd H5 T' (.tup [.int j, .int (marg q a b (t.take j))])) := (Same.refl _).upd hT'
        have h6d := t6 _ _ h5d
        have h6T := t6 _ _ h5T
        have h6M := t6 _ _ h5M
        have s6 := s5.trans t6
        refine ⟨T', _, rfl, SqT.of upd_same, rfl, _, _, rfl, _, _, rfl, rfl, ?_⟩
        generalize upd H5 T' (.tup [.int j, .int (marg q a b (t.take j))]) = H6 at h6d h6T h6M s6
        have ndT6 : T ≠ d := ndT.symm
        refine ⟨_, rfl, _, rfl, _, rfl, _, rfl, _, rfl, t, rfl, sz (by omega), ?_⟩
        rw [cutL_to]
        refine ⟨d, _, rfl, DPut.k (k := Sum.inr (tx (t.take j))) h6d (by rw [sizeLine_eq]; omega), ?_⟩
        refine ⟨_, _, _, rfl, s6.upd Hd, by rw [upd_ne ndT6]; exact h6T, by rw [upd_ne ndM.symm]; exact h6M, upd_same, ?_, cov5.put _ fun s hs => ?_⟩
        · have := length_putK kvs' (Sum.inr (tx (t.take j)) : Key) (.int (marg q a b (t.take j)))
          omega
        · rcases hs with h | ⟨m, hm, e⟩
          · exact .inl (.inl h)
          · by_cases z : m = j
            · exact .inr (by rw [e, z])
            · exact .inl (.inr ⟨m, by omega, e⟩)
      · rintro σ H5 ⟨v5, v6, kvs', rfl, s5, h5T, h5M, h5d, hk5, cov5⟩
        refine ⟨_, _, _, kvs', rfl, s5, h5T, h5d, by rw [hml] at hk5; rw [Nat.succ_mul]; omega, fun s hs => cov5 s ?_⟩
        rcases hcov s hs with h | h
        · exact .inl h
        · refine .inr ⟨s.length, ?_, List.prefix_iff_eq_take.mp h⟩
          rw [hml]
          have := h.length_le
          omega
    · rintro σ H3 ⟨v4, v5, v6, kvs, rfl, s3, h3T, h3d, hk3, cov3⟩
      refine r6 v4 v5 v6 none d kvs H3 s3 h3d fun s hs => cov3 s ?_
      rcases hs with h | h
      · exact .inl ⟨by show 0 < 2; decide, h⟩
      · exact .inr ⟨by show 1 < 2; decide, h⟩
end
end FW
namespace FW
open PySem L2
/-! ### firstword.waiting: likelier -/
theorem cutL_last (l : List Nat) : cutL l none (some (-1)) = l.dropLast := by
  show (l.drop 0).take ((if (-1 : Int) < 0 then ((-1 : Int) + (l.length : Int)).toNat else min (-1 : Int).toNat l.length) - 0) = _
  rw [if_pos (by decide), List.drop_zero, Nat.sub_zero, List.dropLast_eq_take]
  congr 1
  omega
def spLik : Sp := fun vs H Q _ => ∃ b : List Nat, vs = [.str (tx b)] ∧ 3 ≤ b.length ∧ b.length ≤ 9000 ∧ (∀ c ∈ b, c ∈ alpha.take 2) ∧ ∀ H', Same H H' → Q (.str (tx (lik b))) H'
section
variable {P : Program} {w : World} {K : PySem.W.Frag} {mg : Str → Option Value} {base : Heap}
theorem scLik : FnScope ["word", "first"] ["word"] (defScope sLik) := ⟨rfl, rfl, rfl, by decide +kernel, rfl, by decide +kernel, by decide +kernel⟩
theorem ok_lik {f fw : Addr} {fd dw : FuncData} (F : Fun K "likelier" "likelier" sLik f fd) (B : Bl mg) (GC : Gv mg "COIN_SIDES" (.int 2)) (GL : Gv mg "LEAST_LETTERS" (.int 3)) (GW : Gf P w K mg base 3 "check_word" ["sides", "word"] spChW fw dw) : FnOk P w K mg base CX0 4 f fd ["word"] spLik := by
  obtain ⟨uM, mM, rM⟩ := GC
  obtain ⟨uL, mL, rL⟩ := GL
  refine F.ok scLik (fun vs H Q E h => ?_) (fun cdv A outer s H vs Q E hr h => ?_)
  · obtain ⟨b, rfl, _⟩ := h
    rfl
  · obtain ⟨b, rfl, h3, hl, ho, k⟩ := h
    refine ⟨_, pss_cons (ps_expr (pe_call GW.ok hr rfl GW.mg GW.kp GW.bd .nil pass0 (pa_cons (pe_glob rfl mM rM) (pa_cons (pv 0) pa_nil))))
      (pss_cons (ps_if (pt_cmpR op_lt (pe_callB call_len_tx rfl B.len (by decide +kernel) (pa_cons (pv 0) pa_nil)) (pe_glob rfl mL rL) (nomark _)) pss_never pss_nil)
      (pss_cons (ps_set (i := 1) scLik.nd rfl (Or.inl rfl) (pe_ifExp (pt_cmpR op_eq (pe_ix ix_tx (pv 0) pe_int (fun _ _ => rfl)) (pe_tx (l := [97])) (nomark _)) (pe_tx (l := [98])) (pe_tx (l := [97]))))
      (pss_one (ps_ret (pe_op op_add_tx (pv 1) (pe_slice sl_str (pv 0) po_none (po_some (pe_un un_neg pe_int)))))))), ?_⟩
    have hne : b ≠ [] := by rintro rfl; simp at h3
    refine ⟨_, rfl, 2, b, rfl, by decide, by decide, by omega, ho, hne, fun H1 s1 => ⟨_, rfl, b, rfl, sz (by omega), _, _, rfl, rfl, _, rfl, ?_⟩⟩
    rw [decide_eq_false (by show ¬ ((b.length : Nat) : Int) < 3; omega)]
    have e1 : b[1]? = some b[1] := List.getElem?_eq_getElem (by omega)
    refine iteF ⟨_, rfl, b, 1, b[1], rfl, rfl, sz (by omega), e1, rfl, _, rfl, ?_⟩
    have eg : b.getD 1 0 = b[1] := by rw [List.getD_eq_getElem?_getD, e1]; rfl
    have k' := k H1 s1
    unfold lik at k'
    rw [eg] at k'
    have el : cutL b none (some (-1)) = b.dropLast := cutL_last b
    rw [dec_tx]
    by_cases hc : b[1] = 97
    · rw [hc, decide_eq_true rfl]
      rw [if_pos hc] at k'
      refine iteT ⟨_, rfl, _, rfl, _, rfl, _, rfl, b, rfl, sz (by omega), [98], b.dropLast, rfl, congrArg (fun z => V.str (tx z)) el, ?_, k'⟩
      rw [List.length_dropLast, sizeLine_eq]
      show 1 + _ ≤ _
      omega
    · rw [decide_eq_false (by intro z; exact hc (by simpa using z))]
      rw [if_neg hc] at k'
      refine iteF ⟨_, rfl, _, rfl, _, rfl, _, rfl, b, rfl, sz (by omega), [97], b.dropLast, rfl, congrArg (fun z => V.str (tx z)) el, ?_, k'⟩
      rw [List.length_dropLast, sizeLine_eq]
      show 1 + _ ≤ _
      omega
end
/-! the likelier word is another one -/
theorem lik_len {b : List Nat} (h : b ≠ []) : (lik b).length = b.length := by
  unfold lik
  rw [List.length_cons, List.length_dropLast]
  have := List.length_pos_iff.mpr h
  omega
theorem lik_ne {b : List Nat} (h3 : 3 ≤ b.length) : lik b ≠ b := by
  intro e
  have e0 : (lik b)[0]? = b[0]? := by rw [e]
  have e1 : (lik b)[1]? = b[1]? := by rw [e]
  have g1 : b[1]? = some b[1] := List.getElem?_eq_getElem (by omega)
  have g0 : b[0]? = some b[0] := List.getElem?_eq_getElem (by omega)
  have eg : b.getD 1 0 = b[1] := by rw [List.getD_eq_getElem?_getD, g1]; rfl
  unfold lik at e0 e1
  rw [List.getElem?_cons_succ, List.getElem?_dropLast, if_pos (by omega), g0, g1] at e1
  rw [List.getElem?_cons_zero, g0, eg] at e0
  have z0 := Option.some.inj e0
  have z1 := Option.some.inj e1
  split at z0 <;> omega
theorem infix_len {a b : List Nat} (h : a.length = b.length) : a <:+: b ↔ a = b := by
  constructor
  · intro z
    exact z.eq_of_length h
  · rintro rfl
    exact List.infix_refl _
theorem lik_mem {b : List Nat} (hb : ∀ c ∈ b, c ∈ alpha.take 2) : ∀ c ∈ lik b, c ∈ alpha.take 2 := by
  intro c hc
  unfold lik at hc
  rcases List.mem_cons.mp hc with h | h
  · rw [h]
    split <;> decide
  · exact hb c (List.dropLast_subset _ h)
end FW
namespace FW
open PySem L2 L2T
/-! ### law_k05: the law itself -/
def spLaw (K : PySem.W.Frag) : Sp := fun vs H Q _ => ∃ (a : Addr) (ns : List Int), vs = [.ref a] ∧ SqL K H a (ns.map V.int) ∧ ns.length ≤ 63 ∧ ∀ H', Q (.bl true) H'
abbrev NL : List Str := ["_law_script", "_law_word", "_law_ahead", "_law_turn", "_law_found", "_law_told"]
theorem scLaw : FnScope NL ["_law_script"] (defScope sLaw) := ⟨rfl, rfl, rfl, by decide +kernel, rfl, by decide +kernel, by decide +kernel⟩
def bit (n : Int) : Nat := if n / 2 % 2 = 0 then 97 else 98
theorem bit_ok (n : Int) : ∃ i : Nat, n / 2 % 2 = (i : Int) ∧ [97, 98][i]? = some (bit n) := by
  unfold bit
  have h0 : 0 ≤ n / 2 % 2 := Int.emod_nonneg _ (by decide)
  have h1 : n / 2 % 2 < 2 := Int.emod_lt_of_pos _ (by decide)
  by_cases e : n / 2 % 2 = 0
  · exact ⟨0, e, by rw [if_pos e]; rfl⟩
  · exact ⟨1, by omega, by rw [if_neg e]; rfl⟩
theorem bit_mem (n : Int) : bit n ∈ alpha.take 2 := by
  unfold bit
  split <;> decide
def Coin (l : List Nat) : Prop := ∀ c ∈ l, c ∈ alpha.take 2
theorem Coin.app {a b : List Nat} (h : Coin a) (h' : Coin b) : Coin (a ++ b) := fun c hc => (List.mem_append.mp hc).elim (h c) (h' c)
theorem Coin.take {a : List Nat} (h : Coin a) (k : Nat) : Coin (a.take k) := fun c hc => h c (List.mem_of_mem_take hc)
theorem Coin.two {a : List Nat} (h : Coin a) : ∀ c ∈ a, c = 97 ∨ c = 98 := fun c hc => by
  have := mem_alpha (h c hc) (by decide)
  omega
theorem Coin.rep {a : List Nat} (h : Coin a) (n : Int) : Coin (repL n a) := fun c hc => by
  unfold repL at hc
  obtain ⟨l, hl, hc'⟩ := List.mem_flatten.mp hc
  rw [(List.mem_replicate.mp hl).2] at hc'
  exact h c hc'
theorem bits_flat (ns : List Int) : (ns.map fun n => [bit n]).flatten = ns.map bit := by
  induction ns with
  | nil => rfl
  | cons x l ih => rw [List.map_cons, List.flatten_cons, ih]; rfl
section
variable {P : Program} {w : World} {K : PySem.W.Frag} {mg : Str → Option Value} {base : Heap}
theorem ok_law {f C fI fS fL fR : Addr} {fd dL dR : FuncData} (F : Fun K "law" "law" sLaw f fd) (B : Bl mg) (W : RaceC K mg C fI fS) (GL : Gf P w K mg base 4 "likelier" ["word"] spLik fL dL) (GR : Gf P w K mg base 5 "race" ["sides", "one", "other"] (spRace C) fR dR) :
    FnOk P w K mg base CX0 6 f fd ["_law_script"] (spLaw K) := by
  refine F.ok scLaw (fun vs H Q E h => ?_) (fun cdv A outer s H vs Q E hr h => ?_)
  · obtain ⟨a, ns, rfl, _⟩ := h
    rfl
  · obtain ⟨a, ns, rfl, hS, hn, k⟩ := h
    have hr4 := hr.mono (show 4 ≤ 5 by decide)
    have T4 : ∃ t, PSs (cxOf CX0 P w K mg base NL "law" (defScope sLaw) f cdv A outer s H E).nox ((defBody sLaw).drop 4) t ∧ ∀ (σ : St) (H1 : Hp), t { nx := fun _ H' => Q .non H', rt := Q } σ H1 := by
      refine ⟨_, pss_one (ps_ret (pe_and (pe_cmpR op_eq (pe_call GL.ok hr4 rfl GL.mg GL.kp GL.bd .nil pass0 (pa_cons (pe_tx (l := [97, 97, 97])) pa_nil)) (pe_tx (l := [98, 97, 97])) (nomark _))
        (pe_one (pe_cmpR op_eq (pe_call GL.ok hr4 rfl GL.mg GL.kp GL.bd .nil pass0 (pa_cons (pe_tx (l := [97, 98, 97])) pa_nil)) (pe_tx (l := [97, 97, 98])) (nomark _))))), ?_⟩
      intro σ H1
      refine ⟨[97, 97, 97], rfl, by decide, by decide, by decide, fun H2 s2 => ?_⟩
      rw [show lik [97, 97, 97] = [98, 97, 97] from by decide]
      refine ⟨rfl, _, rfl, ?_⟩
      rw [dec_tx, decide_eq_true rfl]
      refine iteT ⟨[97, 98, 97], rfl, by decide, by decide, by decide, fun H3 s3 => ?_⟩
      rw [show lik [97, 98, 97] = [97, 97, 98] from by decide]
      refine ⟨rfl, ?_⟩
      rw [dec_tx, decide_eq_true rfl]
      exact k _
    obtain ⟨t4, p4, r4⟩ := T4
    have T3 : ∃ t, PSs (cxOf CX0 P w K mg base NL "law" (defScope sLaw) f cdv A outer s H E).nox ((defBody sLaw).drop 3) t ∧ ∀ (wd ah : List Nat) (v3 v4 v5 : Option V) (H1 : Hp), Coin wd → Coin ah → wd.length ≤ 100 → ah.length = 3 →
        t { nx := fun _ H' => Q .non H', rt := Q } [some (.ref a), some (.str (tx wd)), some (.str (tx ah)), v3, v4, v5] H1 := by
      refine ⟨_, pss_cons (ps_for PassesOwn.never rfl (pi_list (pe_lst (pa_cons (pe_op op_add_tx (pv 2) (pv 1)) (pa_cons (pe_op op_add_tx (pv 1) (pv 2)) pa_nil)))) (pg_name (i := 1) scLaw.nd rfl (Or.inl rfl))
        (pss_one (ps_for PassesOwn.never rfl (pi_range1 rfl B.range (pa_cons pe_int pa_nil)) (pg_name (i := 3) scLaw.nd rfl (Or.inl rfl))
          (pss_cons (ps_set (i := 4) scLaw.nd rfl (Or.inl rfl) (pe_call GL.ok hr4 rfl GL.mg GL.kp GL.bd .nil pass0 (pa_cons (pv 1) pa_nil)))
          (pss_cons (ps_if (PW.pt (pw_or (pt_not (pt_val (pe_callB call_isinst rfl B.isinstance (by decide +kernel) (pa_cons (pv 4) (pa_cons (pe_bltn (v := .ty "str") rfl B.str (by decide +kernel) rfl) pa_nil)))))
            (pw_or (pt_cmpR op_ne (pe_slice sl_str (pv 4) (po_some pe_int) po_none) (pe_slice sl_str (pv 1) po_none (po_some (pe_un un_neg pe_int))) (nomark _))
            (pw_or (pt_cmpR op_eq (pe_ix ix_tx (pv 4) pe_int (fun _ _ => rfl)) (pe_ix ix_tx (pv 1) pe_int (fun _ _ => rfl)) (nomark _))
            (pw_or1 (pt_cmpR op_notin_tx (pe_ix ix_tx (pv 4) pe_int (fun _ _ => rfl)) (pe_tx (l := [97, 98])) rfl)))))) (pss_one (ps_ret pe_bl)) pss_nil)
          (pss_cons (ps_if (PW.pt (pw_or (pt_cmpR op_eq (pv 4) (pv 1) (nomark _)) (pw_or (pt_cmpR op_in_tx (pv 4) (pv 1) rfl) (pw_or1 (pt_cmpR op_in_tx (pv 1) (pv 4) rfl))))) (pss_one (ps_ret pe_bl)) pss_nil)
          (pss_cons (ps_set (i := 5) scLaw.nd rfl (Or.inl rfl) (pe_call GR.ok hr rfl GR.mg GR.kp GR.bd .nil pass0 (pa_cons pe_int (pa_cons (pv 4) (pa_cons (pv 1) pa_nil)))))
          (pss_cons (ps_if (pt_cmpR op_le (pe_op op_mul pe_int (pe_ix ix_list (pe_fld (pv 5) rfl) pe_int (fun _ _ => rfl))) (pe_fld (pv 5) rfl) (nomark _)) (pss_one (ps_ret pe_bl)) pss_nil)
          (pss_one (ps_set (i := 1) scLaw.nd rfl (Or.inl rfl) (pv 4))))))))))) p4, ?_⟩
      intro wd ah v3 v4 v5 H1 cw ca lw la
      refine ⟨_, rfl, _, rfl, _, _, rfl, rfl, sz (by omega), _, rfl, _, rfl, _, _, rfl, rfl, sz (by omega), by show 2 ≤ sizeLine; decide, fun z hz => ⟨z, rfl, ⟨_, SqL.of upd_same⟩, ?_⟩⟩
      refine for_list (xs := [V.str (tx (ah ++ wd)), V.str (tx (wd ++ ah))]) (fun _ σ H2 => (∃ v1 v3 v4 v5, σ = [some (.ref a), v1, some (.str (tx ah)), v3, v4, v5]) ∧ H2 z = some (.lst [V.str (tx (ah ++ wd)), V.str (tx (wd ++ ah))])) ⟨⟨_, _, _, _, rfl⟩, upd_same⟩ (fun _ _ _ _ h => SqL.of h.2) ?_ ?_
      rotate_left
      · rintro σ H2 _
        exact r4 σ H2
      rintro j y σ H2 hy ⟨⟨v1, v3, v4, v5, rfl⟩, h2z⟩
      obtain ⟨u0, rfl, cu0, lu0, lu0'⟩ : ∃ u, y = .str (tx u) ∧ Coin u ∧ 3 ≤ u.length ∧ u.length ≤ 103 := by
        match j, hy with
        | 0, hy => exact ⟨ah ++ wd, (Option.some.inj hy).symm, ca.app cw, by rw [List.length_append]; omega, by rw [List.length_append]; omega⟩
        | 1, hy => exact ⟨wd ++ ah, (Option.some.inj hy).symm, cw.app ca, by rw [List.length_append]; omega, by rw [List.length_append]; omega⟩
      refine ⟨2, rfl, by decide, by decide, for_range (n := 2) (fun _ σ H3 => (∃ u v3 v4 v5, σ = [some (.ref a), some (.str (tx u)), some (.str (tx ah)), v3, v4, v5] ∧ Coin u ∧ 3 ≤ u.length ∧ u.length ≤ 103) ∧ H3 z = some (.lst [V.str (tx (ah ++ wd)), V.str (tx (wd ++ ah))])) ⟨⟨u0, _, _, _, rfl, cu0, lu0, lu0'⟩, h2z⟩ ?_ ?_⟩
      rotate_left
      · rintro σ H3 ⟨⟨u, v3, v4, v5, rfl, _⟩, h3z⟩
        exact ⟨⟨_, _, _, _, rfl⟩, h3z⟩
      rintro i σ H3 hi ⟨⟨u, v3, v4, v5, rfl, cu, lu, lu'⟩, h3z⟩
      have une : u ≠ [] := by rintro rfl; simp at lu
      have ll := lik_len une
      have lne := lik_ne lu
      have cl : Coin (lik u) := lik_mem cu
      have g1 : u[1]? = some u[1] := List.getElem?_eq_getElem (by omega)
      have eg : u.getD 1 0 = u[1] := by rw [List.getD_eq_getElem?_getD, g1]; rfl
      obtain ⟨x0, ex0, exm, exn⟩ : ∃ x0, (lik u)[0]? = some x0 ∧ x0 ∈ [97, 98] ∧ x0 ≠ u[1] := by
        refine ⟨if u.getD 1 0 = 97 then 98 else 97, by unfold lik; rfl, by split <;> decide, ?_⟩
        rw [eg]
        split
        · omega
        · rename_i hx
          exact fun z => hx z.symm
      have ed : (lik u).drop 1 = u.dropLast := by unfold lik; rfl
      refine ⟨_, rfl, u, rfl, lu, by omega, cu, fun H4 s4 => ?_⟩
      refine ⟨_, rfl, _, _, _, _, rfl, .str _, kit_str K, _, rfl, iteF ?_⟩
      refine ⟨_, rfl, _, rfl, lik u, rfl, sz (by omega), _, rfl, _, rfl, _, rfl, u, rfl, sz (by omega), rfl, _, rfl, ?_⟩
      have ef : cutL (lik u) (some 1) none = u.dropLast := (cutL_from (lik u) 1).trans ed
      have el : cutL u none (some (-1)) = u.dropLast := cutL_last u
      refine iteNS (by rw [ef]; exact congrArg (fun z => V.str (tx z)) el.symm) ?_
      refine ⟨_, rfl, lik u, 0, x0, rfl, rfl, sz (by omega), ex0, _, rfl, u, 1, u[1], rfl, rfl, sz (by omega), g1, rfl, _, rfl, ?_⟩
      rw [dec_tx, decide_eq_false (by intro z; exact exn (by simpa using z))]
      refine iteF ⟨_, rfl, lik u, 0, x0, rfl, rfl, sz (by omega), ex0, [x0], [97, 98], rfl, rfl, _, rfl, ?_⟩
      rw [decide_eq_true (mem_inf.mpr exm)]
      refine iteF ?_
      have nin1 : ¬ lik u <:+: u := fun z => lne ((infix_len ll).mp z)
      have nin2 : ¬ u <:+: lik u := fun z => lne ((infix_len ll.symm).mp z).symm
      refine ⟨_, rfl, _, rfl, rfl, _, rfl, ?_⟩
      rw [dec_tx, decide_eq_false lne]
      refine iteF ⟨_, rfl, _, rfl, _, _, rfl, rfl, _, rfl, ?_⟩
      rw [decide_eq_false nin1]
      refine iteF ⟨_, rfl, _, rfl, _, _, rfl, rfl, _, rfl, ?_⟩
      rw [decide_eq_false nin2]
      refine iteF ?_
      refine ⟨_, rfl, _, rfl, 2, lik u, u, rfl, by decide, by decide, by intro z; rw [z] at ll; simp at ll; exact une (List.length_eq_zero_iff.mp ll.symm), une, by omega, by omega, cl, cu, nin1, nin2, fun x H5 hx s5 ⟨dx, l, h5x, h5l⟩ => ?_⟩
      obtain ⟨r, er⟩ := stS_first (lik u) u
      have e0 : ((partT 2 (lik u) u).map V.int)[0]? = some (.int (partZ 2 (lik u) u [])) := by
        unfold partT
        rw [er]
        rfl
      refine ⟨_, rfl, x, C, dx, _, _, rfl, h5x, W.cl, W.na, rfl, l, _, _, _, rfl, rfl, SqL.of h5l, atI_nat (j := 0) e0, _, _, rfl, rfl, .inl ⟨by decide, by decide⟩, _, rfl, x, C, dx, _, _, rfl, h5x, W.cl, W.nw, rfl, _, _, rfl, rfl, _, rfl, ?_⟩
      have half := lik_half lu cu.two
      rw [decide_eq_false (by show ¬ (2 * partZ 2 (lik u) u [] ≤ wholeZ 2 (lik u) u); omega)]
      refine iteF ⟨_, rfl, ⟨lik u, _, _, _, rfl, cl, by omega, by omega⟩, ?_⟩
      exact s5 _ _ (s4 _ _ h3z)
    obtain ⟨t3, p3, r3⟩ := T3
    have T2 : ∃ t, PSs (cxOf CX0 P w K mg base NL "law" (defScope sLaw) f cdv A outer s H E).nox ((defBody sLaw).drop 2) t ∧ ∀ (wd : List Nat) (H1 : Hp), Coin wd → wd.length ≤ 100 → SqL K H1 a (ns.map V.int) →
        t { nx := fun _ H' => Q .non H', rt := Q } [some (.ref a), some (.str (tx wd)), none, none, none, none] H1 := by
      refine ⟨_, pss_cons (ps_set (i := 2) scLaw.nd rfl (Or.inl rfl) (pe_ix ix_list (pe_lst (pa_cons (pe_tx (l := [97, 97, 97])) (pa_cons (pe_tx (l := [97, 98, 97])) (pa_cons (pe_tx (l := [97, 98, 98])) (pa_cons (pe_tx (l := [98, 97, 98])) pa_nil)))))
        (pe_op op_mod (pe_op op_fdiv (pe_callB (call_sum rfl) rfl B.sum (by decide +kernel) (pa_cons (pv 0) pa_nil)) pe_int) pe_int) (fun _ _ => rfl))) p3, ?_⟩
      intro wd H1 cw lw h1
      refine ⟨by show 4 ≤ sizeLine; decide, fun z hz => ⟨_, rfl, a, ns, rfl, ((Same.refl H1).upd hz).seq h1, _, _, rfl, rfl, ⟨by decide, by decide⟩, _, _, rfl, rfl, (by show (0 : Int) < _; decide), ?_⟩⟩
      have h0 : 0 ≤ ns.sum / 9 % 4 := Int.emod_nonneg _ (by decide)
      have h1' : ns.sum / 9 % 4 < 4 := Int.emod_lt_of_pos _ (by decide)
      have c4 : ns.sum / 9 % 4 = ((0 : Nat) : Int) ∨ ns.sum / 9 % 4 = ((1 : Nat) : Int) ∨ ns.sum / 9 % 4 = ((2 : Nat) : Int) ∨ ns.sum / 9 % 4 = ((3 : Nat) : Int) := by omega
      dsimp only
      rcases c4 with e | e | e | e <;> rw [e]
      · exact ⟨z, _, _, _, rfl, rfl, SqL.of upd_same, rfl, r3 wd [97, 97, 97] _ _ _ _ cw (by unfold Coin; decide) lw rfl⟩
      · exact ⟨z, _, _, _, rfl, rfl, SqL.of upd_same, rfl, r3 wd [97, 98, 97] _ _ _ _ cw (by unfold Coin; decide) lw rfl⟩
      · exact ⟨z, _, _, _, rfl, rfl, SqL.of upd_same, rfl, r3 wd [97, 98, 98] _ _ _ _ cw (by unfold Coin; decide) lw rfl⟩
      · exact ⟨z, _, _, _, rfl, rfl, SqL.of upd_same, rfl, r3 wd [98, 97, 98] _ _ _ _ cw (by unfold Coin; decide) lw rfl⟩
    obtain ⟨t2, p2, r2⟩ := T2
    refine ⟨_, pss_cons (ps_set (i := 1) scLaw.nd rfl (Or.inl rfl) (pe_bm PySem.F.plainAttrs_str PySem.F.slot_str_join PySem.F.type_str_join mt_join (pe_tx (l := [])) (pa_cons (pe_lc (N := NL) (sc := defScope sLaw) (own := ["_law_cell"]) (cap := [])
          ⟨rfl, by decide +kernel, by decide +kernel, by decide +kernel, by decide +kernel⟩ (pi_list (pv 0))
          (fun _ _ _ _ _ => pg_name (i := 0) (show (lcN NL ["_law_cell"] []).Nodup by decide +kernel) rfl (Or.inl rfl) (.inr rfl)) (fun _ _ _ _ _ => pif_nil) (fun _ _ _ _ _ => pe_ix ix_tx (pe_tx (l := [97, 98])) (pe_op op_mod (pe_op op_fdiv (pv 0) pe_int) pe_int) (fun _ _ => rfl))) pa_nil)))
      (pss_cons (ps_if (pt_cmpR op_eq (pe_op op_mod (pe_callB (call_sum rfl) rfl B.sum (by decide +kernel) (pa_cons (pv 0) pa_nil)) pe_int) pe_int (nomark _))
        (pss_one (ps_set (i := 1) scLaw.nd rfl (Or.inl rfl) (pe_slice sl_str (pe_op op_mul_tx (pe_slice sl_str (pv 1) po_none (po_some (pe_op op_add pe_int (pe_op op_mod (pe_op op_fdiv (pe_callB (call_sum rfl) rfl B.sum (by decide +kernel) (pa_cons (pv 0) pa_nil)) pe_int) pe_int)))) (pe_callB call_len_tx rfl B.len (by decide +kernel) (pa_cons (pv 1) pa_nil))) po_none (po_some (pe_callB call_len_tx rfl B.len (by decide +kernel) (pa_cons (pv 1) pa_nil)))))) pss_nil) p2), ?_⟩
    refine ⟨rfl, _, rfl, a, rfl, ⟨_, hS⟩, lcb1 ns.length (fun i => .str (tx [bit (ns.getD i 0)])) (Nat.le_trans hn (by decide)) (fun i H1 hi s1 => ⟨_, .int ns[i], s1.seq hS, by rw [List.getElem?_map, List.getElem?_eq_getElem hi]; rfl⟩) (fun H1 s1 => ⟨_, s1.seq hS, by rw [List.length_map]; exact Nat.le_refl _⟩) ?_ ?_⟩
    · rintro i H1 K1 hi s1 k1 x _ ⟨rfl, hx⟩
      have hx' := hx _ (s1.seq hS)
      rw [List.getElem?_map, List.getElem?_eq_getElem hi] at hx'
      have ex : x = .int ns[i] := (Option.some.inj hx').symm
      subst ex
      have eg : ns.getD i 0 = ns[i] := by rw [List.getD_eq_getElem?_getD, List.getElem?_eq_getElem hi]; rfl
      have k1' := k1 _ (Same.refl _)
      rw [eg] at k1'
      obtain ⟨m, em, gm⟩ := bit_ok ns[i]
      exact ⟨lcExt_set (by decide), _, rfl, _, _, rfl, rfl, ⟨by decide, by decide⟩, _, _, rfl, rfl, (by show (0 : Int) < _; decide), [97, 98], m, _, rfl, congrArg V.int em, sz (by decide), gm, k1'⟩
    · intro D H1 hD s1 hd
      have hd' : H1 D = some (.lst ((ns.map fun n => [bit n]).map fun l => V.str (tx l))) := by
        rw [hd, List.map_map]
        congr 2
        exact range_map_getD (fun c => V.str (tx [bit c])) 0 ns
      have lw : (ns.map bit).length ≤ 63 := by rw [List.length_map]; exact hn
      have cw : Coin (ns.map bit) := fun c hc => by
        obtain ⟨n, _, rfl⟩ := List.mem_map.mp hc
        exact bit_mem n
      refine ⟨D, _, rfl, rfl, SqL.of hd', by rw [bits_flat]; exact sz (by omega), ?_⟩
      rw [bits_flat]
      have h1 := s1.seq hS
      generalize ns.map bit = wd at lw cw
      refine ⟨_, rfl, a, ns, rfl, h1, _, _, rfl, rfl, (by show (0 : Int) < _; decide), rfl, _, rfl, ite2 (fun _ => ?_) (fun _ => r2 wd H1 cw (by omega) h1)⟩
      have m0 : 0 ≤ ns.sum / 3 % 4 := Int.emod_nonneg _ (by decide)
      have m1 : ns.sum / 3 % 4 < 4 := Int.emod_lt_of_pos _ (by decide)
      obtain ⟨sk, esk⟩ : ∃ sk : Nat, 1 + ns.sum / 3 % 4 = ((sk : Nat) : Int) := ⟨(1 + ns.sum / 3 % 4).toNat, by omega⟩
      refine ⟨_, rfl, _, rfl, a, ns, rfl, h1, _, _, rfl, rfl, ⟨by decide, by decide⟩, _, _, rfl, rfl, (by show (0 : Int) < _; decide), _, _, rfl, rfl, _, rfl, wd, rfl, sz (by omega), _, rfl, wd, rfl, sz (by omega), ?_⟩
      dsimp only
      rw [esk, cutL_to]
      have tl : (wd.take sk).length ≤ 63 := by rw [List.length_take]; omega
      have tc := cw.take sk
      generalize wd.take sk = hd at tl tc
      have rl : (repL ((wd.length : Nat) : Int) hd).length ≤ 63 * 63 := by
        unfold repL
        rw [len_rep, Int.toNat_natCast]
        exact Nat.mul_le_mul lw tl
      refine ⟨hd, _, rfl, rfl, by omega, by omega, ?_, _, rfl, wd, rfl, sz (by omega), _, rfl, _, rfl, sz (by omega), ?_⟩
      · rw [Int.toNat_natCast, sizeLine_eq]
        have := Nat.mul_le_mul tl lw
        omega
      · rw [cutL_to]
        refine r2 _ H1 ((tc.rep _).take _) ?_ h1
        rw [List.length_take]
        omega
end
end FW
namespace FW
open PySem L2
/-! ### what the top has written, and the law's own head -/
theorem all_mk {l : PySem.W.OpenLaw} {w : World} {K : PySem.W.Frag} {h : Heap} {mg : Str → Option Value} {fa : Addr} (X : K.In h) (G : h.Ns mainGlobals mg) (hfa : mg "law" = some (.ref fa))
    {f1 : Addr} {od1 an1 : Option Addr} {sl1 : Array (Option Value)} {oc1 kV1 dc1 pm1 cd1 ct1 : Value}
    (a1 : PySem.W.nsIn K mainGlobals "is_whole" = some (some (.ref f1)))
    (l1 : K.lookup f1 = some ⟨oc1, od1, .func (PySem.W.fnOf "is_whole" "is_whole" (defArgs sWho) (defBody sWho) (defScope sWho) .none kV1 dc1 pm1 an1 cd1 ct1), sl1⟩)
    (c1 : PySem.W.codeIn K cd1 "is_whole" = true)
    (k1 : PySem.W.keepIn K (.ref f1) = true)
    {f2 : Addr} {od2 an2 : Option Addr} {sl2 : Array (Option Value)} {oc2 kV2 dc2 pm2 cd2 ct2 : Value}
    (a2 : PySem.W.nsIn K mainGlobals "is_throws" = some (some (.ref f2)))
    (l2 : K.lookup f2 = some ⟨oc2, od2, .func (PySem.W.fnOf "is_throws" "is_throws" (defArgs sThr) (defBody sThr) (defScope sThr) .none kV2 dc2 pm2 an2 cd2 ct2), sl2⟩)
    (c2 : PySem.W.codeIn K cd2 "is_throws" = true)
    (k2 : PySem.W.keepIn K (.ref f2) = true)
    {f3 : Addr} {od3 an3 : Option Addr} {sl3 : Array (Option Value)} {oc3 kV3 dc3 pm3 cd3 ct3 : Value}
    (a3 : PySem.W.nsIn K mainGlobals "is_word" = some (some (.ref f3)))
    (l3 : K.lookup f3 = some ⟨oc3, od3, .func (PySem.W.fnOf "is_word" "is_word" (defArgs sIsW) (defBody sIsW) (defScope sIsW) .none kV3 dc3 pm3 an3 cd3 ct3), sl3⟩)
    (c3 : PySem.W.codeIn K cd3 "is_word" = true)
    (k3 : PySem.W.keepIn K (.ref f3) = true)
    {f4 : Addr} {od4 an4 : Option Addr} {sl4 : Array (Option Value)} {oc4 kV4 dc4 pm4 cd4 ct4 : Value}
    (a4 : PySem.W.nsIn K mainGlobals "check_sides" = some (some (.ref f4)))
    (l4 : K.lookup f4 = some ⟨oc4, od4, .func (PySem.W.fnOf "check_sides" "check_sides" (defArgs sChS) (defBody sChS) (defScope sChS) .none kV4 dc4 pm4 an4 cd4 ct4), sl4⟩)
    (c4 : PySem.W.codeIn K cd4 "check_sides" = true)
    (k4 : PySem.W.keepIn K (.ref f4) = true)
    {f5 : Addr} {od5 an5 : Option Addr} {sl5 : Array (Option Value)} {oc5 kV5 dc5 pm5 cd5 ct5 : Value}
    (a5 : PySem.W.nsIn K mainGlobals "check_word" = some (some (.ref f5)))
    (l5 : K.lookup f5 = some ⟨oc5, od5, .func (PySem.W.fnOf "check_word" "check_word" (defArgs sChW) (defBody sChW) (defScope sChW) .none kV5 dc5 pm5 an5 cd5 ct5), sl5⟩)
    (c5 : PySem.W.codeIn K cd5 "check_word" = true)
    (k5 : PySem.W.keepIn K (.ref f5) = true)
    {f6 : Addr} {od6 an6 : Option Addr} {sl6 : Array (Option Value)} {oc6 kV6 dc6 pm6 cd6 ct6 : Value}
    (a6 : PySem.W.nsIn K mainGlobals "step" = some (some (.ref f6)))
    (l6 : K.lookup f6 = some ⟨oc6, od6, .func (PySem.W.fnOf "step" "step" (defArgs sStep) (defBody sStep) (defScope sStep) .none kV6 dc6 pm6 an6 cd6 ct6), sl6⟩)
    (c6 : PySem.W.codeIn K cd6 "step" = true)
    (k6 : PySem.W.keepIn K (.ref f6) = true)
    {f7 : Addr} {od7 an7 : Option Addr} {sl7 : Array (Option Value)} {oc7 kV7 dc7 pm7 cd7 ct7 : Value}
    (a7 : PySem.W.nsIn K mainGlobals "shorter_beginnings" = some (some (.ref f7)))
    (l7 : K.lookup f7 = some ⟨oc7, od7, .func (PySem.W.fnOf "shorter_beginnings" "shorter_beginnings" (defArgs sSh) (defBody sSh) (defScope sSh) .none kV7 dc7 pm7 an7 cd7 ct7), sl7⟩)
    (c7 : PySem.W.codeIn K cd7 "shorter_beginnings" = true)
    (k7 : PySem.W.keepIn K (.ref f7) = true)
    {f8 : Addr} {od8 an8 : Option Addr} {sl8 : Array (Option Value)} {oc8 kV8 dc8 pm8 cd8 ct8 : Value}
    (a8 : PySem.W.nsIn K mainGlobals "reached_by_count" = some (some (.ref f8)))
    (l8 : K.lookup f8 = some ⟨oc8, od8, .func (PySem.W.fnOf "reached_by_count" "reached_by_count" (defArgs sRe) (defBody sRe) (defScope sRe) .none kV8 dc8 pm8 an8 cd8 ct8), sl8⟩)
    (c8 : PySem.W.codeIn K cd8 "reached_by_count" = true)
    (k8 : PySem.W.keepIn K (.ref f8) = true)
    {f9 : Addr} {od9 an9 : Option Addr} {sl9 : Array (Option Value)} {oc9 kV9 dc9 pm9 cd9 ct9 : Value}
    (a9 : PySem.W.nsIn K mainGlobals "beginnings_of" = some (some (.ref f9)))
    (l9 : K.lookup f9 = some ⟨oc9, od9, .func (PySem.W.fnOf "beginnings_of" "beginnings_of" (defArgs sBegO) (defBody sBegO) (defScope sBegO) .none kV9 dc9 pm9 an9 cd9 ct9), sl9⟩)
    (c9 : PySem.W.codeIn K cd9 "beginnings_of" = true)
    (k9 : PySem.W.keepIn K (.ref f9) = true)
    {f10 : Addr} {od10 an10 : Option Addr} {sl10 : Array (Option Value)} {oc10 kV10 dc10 pm10 cd10 ct10 : Value}
    (a10 : PySem.W.nsIn K mainGlobals "beginnings" = some (some (.ref f10)))
    (l10 : K.lookup f10 = some ⟨oc10, od10, .func (PySem.W.fnOf "beginnings" "beginnings" (defArgs sBeg) (defBody sBeg) (defScope sBeg) .none kV10 dc10 pm10 an10 cd10 ct10), sl10⟩)
    (c10 : PySem.W.codeIn K cd10 "beginnings" = true)
    (k10 : PySem.W.keepIn K (.ref f10) = true)
    {f11 : Addr} {od11 an11 : Option Addr} {sl11 : Array (Option Value)} {oc11 kV11 dc11 pm11 cd11 ct11 : Value}
    (a11 : PySem.W.nsIn K mainGlobals "held_by_count" = some (some (.ref f11)))
    (l11 : K.lookup f11 = some ⟨oc11, od11, .func (PySem.W.fnOf "held_by_count" "held_by_count" (defArgs sHeld) (defBody sHeld) (defScope sHeld) .none kV11 dc11 pm11 an11 cd11 ct11), sl11⟩)
    (c11 : PySem.W.codeIn K cd11 "held_by_count" = true)
    (k11 : PySem.W.keepIn K (.ref f11) = true)
    {f12 : Addr} {od12 an12 : Option Addr} {sl12 : Array (Option Value)} {oc12 kV12 dc12 pm12 cd12 ct12 : Value}
    (a12 : PySem.W.nsIn K mainGlobals "margins_by_count" = some (some (.ref f12)))
    (l12 : K.lookup f12 = some ⟨oc12, od12, .func (PySem.W.fnOf "margins_by_count" "margins_by_count" (defArgs sMarg) (defBody sMarg) (defScope sMarg) .none kV12 dc12 pm12 an12 cd12 ct12), sl12⟩)
    (c12 : PySem.W.codeIn K cd12 "margins_by_count" = true)
    (k12 : PySem.W.keepIn K (.ref f12) = true)
    {f13 : Addr} {od13 an13 : Option Addr} {sl13 : Array (Option Value)} {oc13 kV13 dc13 pm13 cd13 ct13 : Value}
    (a13 : PySem.W.nsIn K mainGlobals "race" = some (some (.ref f13)))
    (l13 : K.lookup f13 = some ⟨oc13, od13, .func (PySem.W.fnOf "race" "race" (defArgs sRaceF) (defBody sRaceF) (defScope sRaceF) .none kV13 dc13 pm13 an13 cd13 ct13), sl13⟩)
    (c13 : PySem.W.codeIn K cd13 "race" = true)
    (k13 : PySem.W.keepIn K (.ref f13) = true)
    {f14 : Addr} {od14 an14 : Option Addr} {sl14 : Array (Option Value)} {oc14 kV14 dc14 pm14 cd14 ct14 : Value}
    (a14 : PySem.W.nsIn K mainGlobals "likelier" = some (some (.ref f14)))
    (l14 : K.lookup f14 = some ⟨oc14, od14, .func (PySem.W.fnOf "likelier" "likelier" (defArgs sLik) (defBody sLik) (defScope sLik) .none kV14 dc14 pm14 an14 cd14 ct14), sl14⟩)
    (c14 : PySem.W.codeIn K cd14 "likelier" = true)
    (k14 : PySem.W.keepIn K (.ref f14) = true)
    {f15 : Addr} {od15 an15 : Option Addr} {sl15 : Array (Option Value)} {oc15 kV15 dc15 pm15 cd15 ct15 : Value}
    (a15 : PySem.W.nsIn K mainGlobals "law" = some (some (.ref f15)))
    (l15 : K.lookup f15 = some ⟨oc15, od15, .func (PySem.W.fnOf "law" "law" (defArgs sLaw) (defBody sLaw) (defScope sLaw) .none kV15 dc15 pm15 an15 cd15 ct15), sl15⟩)
    (c15 : PySem.W.codeIn K cd15 "law" = true)
    (k15 : PySem.W.keepIn K (.ref f15) = true)
    {xc1 : Str} {tc1 : Tok}
    (v1 : PySem.W.nsIn K mainGlobals "LETTERS" = some (some (.str xc1 tc1)))
    (e1 : xc1 = tx alpha)
    {tc2 : Tok}
    (v2 : PySem.W.nsIn K mainGlobals "LEAST_SIDES" = some (some (.int 2 tc2)))
    {tc3 : Tok}
    (v3 : PySem.W.nsIn K mainGlobals "MOST_SIDES" = some (some (.int 26 tc3)))
    {tc4 : Tok}
    (v4 : PySem.W.nsIn K mainGlobals "COIN_SIDES" = some (some (.int 2 tc4)))
    {tc5 : Tok}
    (v5 : PySem.W.nsIn K mainGlobals "LEAST_LETTERS" = some (some (.int 3 tc5)))
    {CRace : Addr}
    (aRace : PySem.W.nsIn K mainGlobals "Race" = some (some (.ref CRace)))
    (pgRace : PySem.W.plainGet K CRace Str.empty = true)
    (hdRace : PySem.W.hasDictIn K CRace = true)
    (poRace : PySem.W.plainOver K CRace = true)
    (saRace : PySem.W.findIn K (.ref CRace) "__setattr__" = some (some (.builtin "object.__setattr__")))
    {fIRace : Addr}
    (mkRace : PySem.W.makesIn K CRace = true)
    (inRace : PySem.W.findIn K (.ref CRace) "__init__" = some (some (.ref fIRace)))
    (fnRace : PySem.W.isFn K (.ref fIRace) = true)
    (kcRace : PySem.W.keepIn K (.ref CRace) = true)
    {odIRace anIRace : Option Addr} {slIRace : Array (Option Value)} {ocIRace kVIRace dcIRace pmIRace cdIRace ctIRace : Value}
    (lIRace : K.lookup fIRace = some ⟨ocIRace, odIRace, .func (PySem.W.fnOf "__init__" "Race.__init__" (defArgs sRaceI) (defBody sRaceI) (defScope sRaceI) .none kVIRace dcIRace pmIRace anIRace cdIRace ctIRace), slIRace⟩)
    (cIRace : PySem.W.codeIn K cdIRace "Race.__init__" = true)
    (kIRace : PySem.W.keepIn K (.ref fIRace) = true)
    {fSRace : Addr}
    (atRace : PySem.W.findIn K (.ref CRace) "shows" = some (some (.ref fSRace)))
    (mfRace : PySem.W.isFn K (.ref fSRace) = true)
    {odSRace anSRace : Option Addr} {slSRace : Array (Option Value)} {ocSRace kVSRace dcSRace pmSRace cdSRace ctSRace : Value}
    (lSRace : K.lookup fSRace = some ⟨ocSRace, odSRace, .func (PySem.W.fnOf "shows" "Race.shows" (defArgs sRaceS) (defBody sRaceS) (defScope sRaceS) .none kVSRace dcSRace pmSRace anSRace cdSRace ctSRace), slSRace⟩)
    (cSRace : PySem.W.codeIn K cdSRace "Race.shows" = true)
    (kSRace : PySem.W.keepIn K (.ref fSRace) = true)
    (noRace_parts : PySem.W.findIn K (.ref CRace) "parts" = some none)
    (noRace_whole : PySem.W.findIn K (.ref CRace) "whole" = some none)
    (z1 : PySem.W.nsIn K mainGlobals "isinstance" = some none)
    (z2 : PySem.W.nsIn K mainGlobals "str" = some none)
    (z3 : PySem.W.nsIn K mainGlobals "int" = some none)
    (z4 : PySem.W.nsIn K mainGlobals "bool" = some none)
    (z5 : PySem.W.nsIn K mainGlobals "list" = some none)
    (z6 : PySem.W.nsIn K mainGlobals "all" = some none)
    (z7 : PySem.W.nsIn K mainGlobals "any" = some none)
    (z8 : PySem.W.nsIn K mainGlobals "len" = some none)
    (z9 : PySem.W.nsIn K mainGlobals "sum" = some none)
    (z10 : PySem.W.nsIn K mainGlobals "min" = some none)
    (z11 : PySem.W.nsIn K mainGlobals "max" = some none)
    (z12 : PySem.W.nsIn K mainGlobals "range" = some none)
    (z13 : PySem.W.nsIn K mainGlobals "enumerate" = some none)
    (z14 : PySem.W.nsIn K mainGlobals "reversed" = some none)
    (z15 : PySem.W.nsIn K mainGlobals "zip" = some none)
    (z16 : PySem.W.nsIn K mainGlobals "set" = some none)
    (z17 : PySem.W.nsIn K mainGlobals "sorted" = some none)
    (z18 : PySem.W.nsIn K mainGlobals "ValueError" = some none)
    (z19 : PySem.W.nsIn K mainGlobals "ord" = some none)
    (z20 : PySem.W.nsIn K mainGlobals "dict" = some none) :
    ∃ fd : FuncData, (∀ (s : Shared) (v : Value), BindsTo s fd ⟨[v], []⟩ [("_law_script", v)]) ∧ ∀ base : Heap, K.In base → base.Ns mainGlobals mg → FnOk l.prog w K mg base CX0 6 fa fd ["_law_script"] (spLaw K) := by
  have e := hfa.symm.trans (PySem.W.mg_of X G a15)
  cases e
  have B : Bl mg := ⟨PySem.W.mg_none_of X G z1, PySem.W.mg_none_of X G z2, PySem.W.mg_none_of X G z3, PySem.W.mg_none_of X G z4, PySem.W.mg_none_of X G z5, PySem.W.mg_none_of X G z6, PySem.W.mg_none_of X G z7, PySem.W.mg_none_of X G z8, PySem.W.mg_none_of X G z9, PySem.W.mg_none_of X G z10, PySem.W.mg_none_of X G z11, PySem.W.mg_none_of X G z12, PySem.W.mg_none_of X G z13, PySem.W.mg_none_of X G z14, PySem.W.mg_none_of X G z15, PySem.W.mg_none_of X G z16, PySem.W.mg_none_of X G z17, PySem.W.mg_none_of X G z18, PySem.W.mg_none_of X G z19, PySem.W.mg_none_of X G z20⟩
  have F1 := fun_mk (st := sWho) l1 c1 k1
  have b1 := F1.binds (ps := ["thing"]) fun _ _ _ _ _ _ us hl => match us, hl with | [_], _ => rfl
  have m1 := PySem.W.mg_of X G a1
  have F2 := fun_mk (st := sThr) l2 c2 k2
  have b2 := F2.binds (ps := ["sides", "thing"]) fun _ _ _ _ _ _ us hl => match us, hl with | [_, _], _ => rfl
  have m2 := PySem.W.mg_of X G a2
  have F3 := fun_mk (st := sIsW) l3 c3 k3
  have b3 := F3.binds (ps := ["sides", "thing"]) fun _ _ _ _ _ _ us hl => match us, hl with | [_, _], _ => rfl
  have m3 := PySem.W.mg_of X G a3
  have F4 := fun_mk (st := sChS) l4 c4 k4
  have b4 := F4.binds (ps := ["sides"]) fun _ _ _ _ _ _ us hl => match us, hl with | [_], _ => rfl
  have m4 := PySem.W.mg_of X G a4
  have F5 := fun_mk (st := sChW) l5 c5 k5
  have b5 := F5.binds (ps := ["sides", "word"]) fun _ _ _ _ _ _ us hl => match us, hl with | [_, _], _ => rfl
  have m5 := PySem.W.mg_of X G a5
  have F6 := fun_mk (st := sStep) l6 c6 k6
  have b6 := F6.binds (ps := ["word", "shorter", "reached", "letter"]) fun _ _ _ _ _ _ us hl => match us, hl with | [_, _, _, _], _ => rfl
  have m6 := PySem.W.mg_of X G a6
  have F7 := fun_mk (st := sSh) l7 c7 k7
  have b7 := F7.binds (ps := ["word"]) fun _ _ _ _ _ _ us hl => match us, hl with | [_], _ => rfl
  have m7 := PySem.W.mg_of X G a7
  have F8 := fun_mk (st := sRe) l8 c8 k8
  have b8 := F8.binds (ps := ["word", "throws"]) fun _ _ _ _ _ _ us hl => match us, hl with | [_, _], _ => rfl
  have m8 := PySem.W.mg_of X G a8
  have F9 := fun_mk (st := sBegO) l9 c9 k9
  have b9 := F9.binds (ps := ["word"]) fun _ _ _ _ _ _ us hl => match us, hl with | [_], _ => rfl
  have m9 := PySem.W.mg_of X G a9
  have F10 := fun_mk (st := sBeg) l10 c10 k10
  have b10 := F10.binds (ps := ["one", "other"]) fun _ _ _ _ _ _ us hl => match us, hl with | [_, _], _ => rfl
  have m10 := PySem.W.mg_of X G a10
  have F11 := fun_mk (st := sHeld) l11 c11 k11
  have b11 := F11.binds (ps := ["sides", "word"]) fun _ _ _ _ _ _ us hl => match us, hl with | [_, _], _ => rfl
  have m11 := PySem.W.mg_of X G a11
  have F12 := fun_mk (st := sMarg) l12 c12 k12
  have b12 := F12.binds (ps := ["sides", "one", "other", "throws"]) fun _ _ _ _ _ _ us hl => match us, hl with | [_, _, _, _], _ => rfl
  have m12 := PySem.W.mg_of X G a12
  have F13 := fun_mk (st := sRaceF) l13 c13 k13
  have b13 := F13.binds (ps := ["sides", "one", "other"]) fun _ _ _ _ _ _ us hl => match us, hl with | [_, _, _], _ => rfl
  have m13 := PySem.W.mg_of X G a13
  have F14 := fun_mk (st := sLik) l14 c14 k14
  have b14 := F14.binds (ps := ["word"]) fun _ _ _ _ _ _ us hl => match us, hl with | [_], _ => rfl
  have m14 := PySem.W.mg_of X G a14
  have F15 := fun_mk (st := sLaw) l15 c15 k15
  have b15 := F15.binds (ps := ["_law_script"]) fun _ _ _ _ _ _ us hl => match us, hl with | [_], _ => rfl
  have m15 := PySem.W.mg_of X G a15
  have G_LETTERS : Gv mg "LETTERS" (.str (tx alpha)) := ⟨_, PySem.W.mg_of X G v1, _, by rw [e1]⟩
  have G_LEAST_SIDES : Gv mg "LEAST_SIDES" (.int 2) := ⟨_, PySem.W.mg_of X G v2, _, rfl⟩
  have G_MOST_SIDES : Gv mg "MOST_SIDES" (.int 26) := ⟨_, PySem.W.mg_of X G v3, _, rfl⟩
  have G_COIN_SIDES : Gv mg "COIN_SIDES" (.int 2) := ⟨_, PySem.W.mg_of X G v4, _, rfl⟩
  have G_LEAST_LETTERS : Gv mg "LEAST_LETTERS" (.int 3) := ⟨_, PySem.W.mg_of X G v5, _, rfl⟩
  have mRace := PySem.W.mg_of X G aRace
  have clRace : Cls K CRace := ⟨pgRace, hdRace, poRace, saRace⟩
  have mkRace : Mk K CRace fIRace := ⟨mkRace, inRace, fnRace, kcRace⟩
  have FIRace := fun_mk (st := sRaceI) lIRace cIRace kIRace
  have bIRace := FIRace.binds (ps := ["self", "parts", "whole"]) fun _ _ _ _ _ _ us hl => match us, hl with | [_, _, _], _ => rfl
  have FSRace := fun_mk (st := sRaceS) lSRace cSRace kSRace
  have bSRace := FSRace.binds (ps := ["self", "sides", "one", "other"]) fun _ _ _ _ _ _ us hl => match us, hl with | [_, _, _, _], _ => rfl
  have meRace : Meth K CRace "shows" fSRace := ⟨atRace, mfRace, kSRace⟩
  refine ⟨PySem.W.fnOf "law" "law" (defArgs sLaw) (defBody sLaw) (defScope sLaw) .none kV15 dc15 pm15 an15 cd15 ct15, fun s v => .of_eq rfl, fun base _ _ => ?_⟩
  have W : RaceC K mg CRace fIRace fSRace := ⟨mRace, clRace, mkRace, meRace, noRace_parts, noRace_whole⟩
  have g1 : Gf l.prog w K mg base 1 "is_whole" ["thing"] (spWho K) f1 _ := ⟨ok_who F1 B, m1, k1, b1⟩
  have g2 : Gf l.prog w K mg base 1 "is_throws" ["sides", "thing"] (spThr K) f2 _ := ⟨ok_thr F2 B G_LETTERS, m2, k2, b2⟩
  have g3 : Gf l.prog w K mg base 2 "is_word" ["sides", "thing"] (spIsW K) f3 _ := ⟨ok_isw F3 B g2, m3, k3, b3⟩
  have g4 : Gf l.prog w K mg base 2 "check_sides" ["sides"] spChS f4 _ := ⟨ok_chs F4 g1 G_LEAST_SIDES G_MOST_SIDES, m4, k4, b4⟩
  have g5 : Gf l.prog w K mg base 3 "check_word" ["sides", "word"] spChW f5 _ := ⟨ok_chw F5 g3, m5, k5, b5⟩
  have g6 : Gf l.prog w K mg base 1 "step" ["word", "shorter", "reached", "letter"] (spStep K) f6 _ := ⟨ok_step F6 B, m6, k6, b6⟩
  have g7 : Gf l.prog w K mg base 2 "shorter_beginnings" ["word"] spSh f7 _ := ⟨ok_sh F7 g6, m7, k7, b7⟩
  have g8 : Gf l.prog w K mg base 3 "reached_by_count" ["word", "throws"] spRe f8 _ := ⟨ok_re F8 g6 g7, m8, k8, b8⟩
  have g9 : Gf l.prog w K mg base 1 "beginnings_of" ["word"] spBegO f9 _ := ⟨ok_begO F9 B, m9, k9, b9⟩
  have g10 : Gf l.prog w K mg base 2 "beginnings" ["one", "other"] spSts f10 _ := ⟨ok_beg F10 B g9, m10, k10, b10⟩
  have g11 : Gf l.prog w K mg base 3 "held_by_count" ["sides", "word"] spHeld f11 _ := ⟨ok_held F11 B g7, m11, k11, b11⟩
  have g12 : Gf l.prog w K mg base 4 "margins_by_count" ["sides", "one", "other", "throws"] spMarg f12 _ := ⟨ok_marg F12 B g11 g8, m12, k12, b12⟩
  have oI : FnOk l.prog w K mg base CX0 1 fIRace _ ["self", "parts", "whole"] (spRaceI K CRace) := ok_raceI FIRace B W
  have g13 : Gf l.prog w K mg base 5 "race" ["sides", "one", "other"] (spRace CRace) f13 _ := ⟨ok_race F13 B W oI bIRace g4 g5 g12 g10, m13, k13, b13⟩
  have g14 : Gf l.prog w K mg base 4 "likelier" ["word"] spLik f14 _ := ⟨ok_lik F14 B G_COIN_SIDES G_LEAST_LETTERS g5, m14, k14, b14⟩
  exact ok_law F15 B W g14 g13
theorem walk {l : PySem.W.OpenLaw} {q : Program} {loose : List Str} {XP : (Str → Option Value) → Heap → Prop} {YP : World → Heap → Prop} {d : DefRec} {K : Params → PySem.W.Frag} (hn : l.most = some 63) (hdf : d.params.defaults = [])
    (hY : ∀ (w : World) (h : Heap), YP w h → (K w.params).In h)
    (F : ∀ (w : World) (mg : Str → Option Value) (fa : Addr) (h : Heap), (K w.params).In h → h.Ns mainGlobals mg → mg d.name = some (.ref fa) →
      ∃ fd : FuncData, (∀ (s : Shared) (u : Value), BindsTo s fd ⟨[u], []⟩ [("_law_script", u)]) ∧ ∀ base : Heap, (K w.params).In base → base.Ns mainGlobals mg → FnOk l.prog w (K w.params) mg base CX0 6 fa fd ["_law_script"] (spLaw (K w.params))) :
    PySem.W.WalkO q loose XP YP l.row.toRowW d [] (fun f vs => PySem.call f vs) :=
  L2.walk_of (n := 63) (k := 6) (x := "_law_script") (CX := fun w => CX0) (sp := fun w => spLaw (K w.params)) hn (by decide) hdf ⟨rfl, by decide, by decide⟩ hY F (fun _ _ a ns hl _ hS => ⟨a, ns, rfl, hS, hl, fun _ => rfl⟩) fun _ _ _ _ _ z => z
end FW
open PySem PySem.W PyProof.Rows
set_option maxRecDepth 100000 in
set_option maxHeartbeats 0 in
theorem PySem.Challenge.cw_firstword_k05_whole_likelier_holds : PySem.Challenge.rw_firstword_k05_whole_likelier.Holds := by
  w_on; o_law; k_head; (case hw => w_witness2)
  k_fill
  refine FW.walk (l := PySem.Challenge.rw_firstword_k05_whole_likelier) rfl rfl (fun w h Y => PySem.W.kIn_of Y) ?F
  case F =>
    intro w mg fa h KX G hmg
    refine' FW.all_mk KX G hmg ?a1 ?l1 ?c1 ?k1 ?a2 ?l2 ?c2 ?k2 ?a3 ?l3 ?c3 ?k3 ?a4 ?l4 ?c4 ?k4 ?a5 ?l5 ?c5 ?k5 ?a6 ?l6 ?c6 ?k6 ?a7 ?l7 ?c7 ?k7 ?a8 ?l8 ?c8 ?k8 ?a9 ?l9 ?c9 ?k9 ?a10 ?l10 ?c10 ?k10 ?a11 ?l11 ?c11 ?k11 ?a12 ?l12 ?c12 ?k12 ?a13 ?l13 ?c13 ?k13 ?a14 ?l14 ?c14 ?k14 ?a15 ?l15 ?c15 ?k15 ?v1 ?e1 ?v2 ?v3 ?v4 ?v5 ?aRace ?pgRace ?hdRace ?poRace ?saRace ?mkRace ?inRace ?fnRace ?kcRace ?lIRace ?cIRace ?kIRace ?atRace ?mfRace ?lSRace ?cSRace ?kSRace ?noRace_parts ?noRace_whole ?z1 ?z2 ?z3 ?z4 ?z5 ?z6 ?z7 ?z8 ?z9 ?z10 ?z11 ?z12 ?z13 ?z14 ?z15 ?z16 ?z17 ?z18 ?z19 ?z20
    (case a1 => k_is)
    (case l1 => k_is)
    (case c1 => k_is)
    (case k1 => k_is)
    (case a2 => k_is)
    (case l2 => k_is)
    (case c2 => k_is)
    (case k2 => k_is)
    (case a3 => k_is)
    (case l3 => k_is)
    (case c3 => k_is)
    (case k3 => k_is)
    (case a4 => k_is)
    (case l4 => k_is)
    (case c4 => k_is)
    (case k4 => k_is)
    (case a5 => k_is)
    (case l5 => k_is)
    (case c5 => k_is)
    (case k5 => k_is)
    (case a6 => k_is)
    (case l6 => k_is)
    (case c6 => k_is)
    (case k6 => k_is)
    (case a7 => k_is)
    (case l7 => k_is)
    (case c7 => k_is)
    (case k7 => k_is)
    (case a8 => k_is)
    (case l8 => k_is)
    (case c8 => k_is)
    (case k8 => k_is)
    (case a9 => k_is)
    (case l9 => k_is)
    (case c9 => k_is)
    (case k9 => k_is)
    (case a10 => k_is)
    (case l10 => k_is)
    (case c10 => k_is)
    (case k10 => k_is)
    (case a11 => k_is)
    (case l11 => k_is)
    (case c11 => k_is)
    (case k11 => k_is)
    (case a12 => k_is)
    (case l12 => k_is)
    (case c12 => k_is)
    (case k12 => k_is)
    (case a13 => k_is)
    (case l13 => k_is)
    (case c13 => k_is)
    (case k13 => k_is)
    (case a14 => k_is)
    (case l14 => k_is)
    (case c14 => k_is)
    (case k14 => k_is)
    (case a15 => k_is)
    (case l15 => k_is)
    (case c15 => k_is)
    (case k15 => k_is)
    (case v1 => k_is)
    (case e1 => exact (by decide +kernel))
    (case v2 => k_is)
    (case v3 => k_is)
    (case v4 => k_is)
    (case v5 => k_is)
    (case aRace => k_is)
    (case pgRace => k_is)
    (case hdRace => k_is)
    (case poRace => k_is)
    (case saRace => k_is)
    (case mkRace => k_is)
    (case inRace => k_is)
    (case fnRace => k_is)
    (case kcRace => k_is)
    (case lIRace => k_is)
    (case cIRace => k_is)
    (case kIRace => k_is)
    (case atRace => k_is)
    (case mfRace => k_is)
    (case lSRace => k_is)
    (case cSRace => k_is)
    (case kSRace => k_is)
    (case noRace_parts => k_is)
    (case noRace_whole => k_is)
    (case z1 => k_is)
    (case z2 => k_is)
    (case z3 => k_is)
    (case z4 => k_is)
    (case z5 => k_is)
    (case z6 => k_is)
    (case z7 => k_is)
    (case z8 => k_is)
    (case z9 => k_is)
    (case z10 => k_is)
    (case z11 => k_is)
    (case z12 => k_is)
    (case z13 => k_is)
    (case z14 => k_is)
    (case z15 => k_is)
    (case z16 => k_is)
    (case z17 => k_is)
    (case z18 => k_is)
    (case z19 => k_is)
    (case z20 => k_is)
